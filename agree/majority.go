package agree

// strongest is the one number of a list that may be more than half of it: each two that differ do away with one another, and a majority can't be done away with so. Of an empty list it is 0.
func strongest(l []int) int {
	left, more := 0, 0
	for _, n := range l {
		switch {
		case more == 0:
			left, more = n, 1
		case n == left:
			more++
		default:
			more--
		}
	}
	return left
}

// count is how many of a list are n.
func count(l []int, n int) int {
	times := 0
	for _, m := range l {
		if m == n {
			times++
		}
	}
	return times
}
