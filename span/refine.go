package span

// Refine asks reckon for a span by more and more bits, from work on, until it is fine.
func Refine(work int, reckon func(work int) Span, fine func(Span) bool) Span {
	s := reckon(work)
	for !fine(s) {
		work *= 2
		s = reckon(work)
	}
	return s
}

// signsAlike tells whether both ends are above 0, or both below.
func (s Span) signsAlike() bool { return s.Low.Sign()*s.High.Sign() > 0 }

// Same tells whether all numbers, cut to 0 to so many bits, are the same, and on one side of 0.
func (s Span) Same(bits int) bool {
	return s.signsAlike() && s.Low.Cut(bits, s.Low.Neg).Compare(s.High.Cut(bits, s.High.Neg)) == 0
}

// Narrow tells whether all numbers are on one side of 0, and the ends no farther apart than the one that is nearer to 0,
// without its sign, over 2 to the power of so many bits.
func (s Span) Narrow(bits int) bool {
	nearer := s.Low
	if s.Low.Neg {
		nearer = s.High
	}
	return s.signsAlike() && s.High.Minus(s.Low).Compare(nearer.Size().Scaled(-bits)) <= 0
}

// Greatest tells below which power of 2 all numbers are, without their signs; false, if s has 0 alone.
func (s Span) Greatest() (int, bool) {
	size := Around(s.Low.Size(), s.High.Size()).High
	if size.Sign() == 0 {
		return 0, false
	}
	return size.Top(), true
}
