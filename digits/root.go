package digits

// Root is the greatest number whose power k is not more than a. k must be at least 1.
func (a Number) Root(k int) Number {
	if k == 1 || len(a) == 0 {
		return a.Copy()
	}
	// From above the root each step goes down, and none goes below it: where one does not go down, the root is reached.
	root := Number{1}.raised((a.Bits() + k - 1) / k)
	for {
		next := a.nearer(root, k)
		if next.Compare(root) >= 0 {
			return root
		}
		root = next
	}
}

// nearer is the mean of k numbers: of root k - 1 times, and of the one that makes a with all of these.
func (a Number) nearer(root Number, k int) Number {
	last, _ := a.Over(root.Power(k - 1))
	sum := root.Times(Number{uint32(k - 1)}).Plus(last)
	sum.divideBy(uint32(k))
	return trim(sum)
}
