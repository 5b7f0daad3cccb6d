// Package fix: see ../../shared/doc/01-fix.md.
package fix

import (
	"math/bits"

	"fourwatch/api"
)

// Add is a + b.
func Add(a, b int) (int, bool) {
	s := a + b
	// The sum has wrapped just where a and b have one sign and it has the other.
	if (a^s)&(b^s) < 0 {
		return end(a < 0), true
	}
	return s, false
}

// Sub is a - b.
func Sub(a, b int) (int, bool) {
	d := a - b
	// The difference has wrapped just where b and it both have another sign than a.
	if (a^b)&(a^d) < 0 {
		return end(a < 0), true
	}
	return d, false
}

// Mul is a * b, to the nearest; halves go up.
func Mul(a, b int) (int, bool) {
	negative := (a < 0) != (b < 0)
	hi, lo := bits.Mul64(size(a), size(b))
	lo, carry := bits.Add64(lo, half(negative), 0)
	hi += carry
	if hi>>32 != 0 {
		return end(negative), true
	}
	return stop(negative, hi<<32|lo>>32)
}

// Div is a / b, to the nearest; halves go up.
func Div(a, b int) (int, bool) {
	if b == 0 {
		return overNought(a), true
	}
	negative := (a < 0) != (b < 0)
	n, d := size(a), size(b)
	// A quotient of more than 64 bits lies beyond the end, and Div64 would panic.
	if n>>32 >= d {
		return end(negative), true
	}
	q, r := bits.Div64(n>>32, n<<32, d)
	// q + 1 does not wrap: q is at most n where d is 2^32 or more, and below that a q of 2^64 - 1 would put n between d * 2^32 - 1 and d * 2^32.
	if r > d-r || r == d-r && !negative {
		q++
	}
	return stop(negative, q)
}

// Sqrt is the greatest number whose square is at most a.
func Sqrt(a int) (int, bool) {
	if a < 0 {
		return 0, true
	}
	n := uint64(a)
	r := uint64(0)
	// a * 2^32 is below 2^95, so that its root has at most 48 bits.
	for bit := uint64(1) << 47; bit != 0; bit >>= 1 {
		hi, lo := bits.Mul64(r|bit, r|bit)
		if hi < n>>32 || hi == n>>32 && lo <= n<<32 {
			r |= bit
		}
	}
	return int(r), false
}

// Of is the fixed-point number of a whole one.
func Of(n int) (int, bool) {
	a := n << 32
	if a>>32 != n {
		return end(n < 0), true
	}
	return a, false
}

// Floor is the greatest whole number that is at most a.
func Floor(a int) int { return a >> 32 }

// size is a number without its sign; that of the least number has no place in an int.
func size(a int) uint64 {
	if a < 0 {
		return -uint64(a)
	}
	return uint64(a)
}

// half is what is added to a size ahead of cutting 32 bits off; below 0 a size must not grow at a half, as halves go up.
func half(negative bool) uint64 {
	if negative {
		return 1<<31 - 1
	}
	return 1 << 31
}

// stop is the number of a sign and a size, or the end that it lies beyond, and true.
func stop(negative bool, m uint64) (int, bool) {
	if negative {
		if m > 1<<63 {
			return api.MinFix, true
		}
		return int(-m), false
	}
	if m > api.MaxFix {
		return api.MaxFix, true
	}
	return int(m), false
}

func end(negative bool) int {
	if negative {
		return api.MinFix
	}
	return api.MaxFix
}

func overNought(a int) int {
	if a == 0 {
		return 0
	}
	return end(a < 0)
}
