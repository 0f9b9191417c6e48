// Package sums adds up terms without an end, by as many bits as are asked for: what is left out is in what is answered.
package sums

import (
	"slipstick/long"
	"slipstick/span"
)

// Powers is the sum of 1 and of terms, each of which is the one ahead of it times u and a part of it: next tells of the
// term k, from 1 on, by what it is multiplied and divided (both above 0). Without their signs these factors must not be
// more than a half in all; and since they all have the sign of u, a term and all behind it together are from a half of the
// term to twice it. So whoever leaves them out still knows on which side of the sum they are.
func Powers(u span.Span, work int, next func(k int) (times, over int)) span.Span {
	rest := span.Span{Low: long.Whole(1).Scaled(-1), High: long.Whole(2)}
	sum, term := span.Whole(1), span.Whole(1)
	for k := 1; ; k++ {
		times, over := next(k)
		term = term.Times(u).Part(times, over, work)
		if top, some := term.Greatest(); !some || top < -work {
			return sum.Plus(term.Times(rest)).Cut(work)
		}
		sum = sum.Plus(term).Cut(work)
	}
}
