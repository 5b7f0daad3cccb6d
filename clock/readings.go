package clock

import (
	"iter"
	"slices"

	"fourwatch/api"
)

// readings goes through what one clock reads of all four, the bad one's offset being what it is told.
func readings(offsets [api.Nodes]int, bad, lie int) iter.Seq[int] {
	return func(yield func(int) bool) {
		for node, offset := range offsets {
			if node == bad {
				offset = lie
			}
			if !yield(offset) {
				return
			}
		}
	}
}

// others goes through the offsets of all but the bad one; as only one can be bad, there is always one.
func others(offsets [api.Nodes]int, bad int) iter.Seq[int] {
	return func(yield func(int) bool) {
		for node, offset := range offsets {
			if node != bad && !yield(offset) {
				return
			}
		}
	}
}

// middle is Middle of at least one number.
func middle(numbers iter.Seq[int]) int {
	sorted := slices.Sorted(numbers)
	away := (len(sorted) - 1) / 3
	return halfDown(sorted[away], sorted[len(sorted)-1-away])
}

// halfDown is half of a sum, rounded down; the sum itself may be one that no int can hold, so only the bits that differ are halved.
func halfDown(a, b int) int {
	return a&b + (a^b)>>1
}

// quotientDown divides by a number above 0; Go's own quotient is rounded towards 0, which is up for one below 0.
func quotientDown(n, by int) int {
	q := n / by
	if n%by < 0 {
		q--
	}
	return q
}

// within tells whether a number is from -limit to limit.
func within(n, limit int) bool {
	return -limit <= n && n <= limit
}

// allWithin tells it of all four.
func allWithin(numbers [api.Nodes]int, limit int) bool {
	for _, n := range numbers {
		if !within(n, limit) {
			return false
		}
	}
	return true
}
