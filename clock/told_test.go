package clock

import (
	"math"
	"math/big"
	"math/rand"

	"fourwatch/api"
)

const (
	top     = math.MaxInt
	low     = math.MinInt
	maxTime = 1 << 40
)

// toldLocal is P7.1 with numbers of any size; big's Div rounds down where the divisor is above 0.
func toldLocal(c api.Clock, t int) (int, api.Errno) {
	if toldOut(c.Offset, 1<<30) || toldOut(c.Rate, 500) || t < 0 || t > maxTime {
		return 0, api.ErrRange
	}
	drift := new(big.Int).Mul(big.NewInt(int64(t)), big.NewInt(int64(c.Rate)))
	drift.Div(drift, big.NewInt(1000000))
	drift.Add(drift, big.NewInt(int64(t)))
	return int(drift.Add(drift, big.NewInt(int64(c.Offset))).Int64()), api.OK
}

// toldMiddle is P7.2 as it is told: the least and the greatest are taken away one by one.
func toldMiddle(l []int) (int, api.Errno) {
	n := len(l)
	if n == 0 || n > 64 {
		return 0, api.ErrSize
	}
	left := make([]int, n)
	copy(left, l)
	for range (n - 1) / 3 {
		left = toldWithout(left, toldLeast(left))
		left = toldWithout(left, toldGreatest(left))
	}
	sum := new(big.Int).Add(big.NewInt(int64(toldLeast(left))), big.NewInt(int64(toldGreatest(left))))
	return int(sum.Div(sum, big.NewInt(2)).Int64()), api.OK
}

// toldRound is P7.3, each clock's readings written out.
func toldRound(offsets [4]int, bad int, lies [4]int) ([4]int, api.Errno) {
	for i := range 4 {
		if toldOut(offsets[i], maxTime) || toldOut(lies[i], maxTime) {
			return [4]int{}, api.ErrRange
		}
	}
	next := [4]int{}
	for i := range 4 {
		if i == bad {
			next[i] = offsets[i]
			continue
		}
		read := []int{offsets[0], offsets[1], offsets[2], offsets[3]}
		if bad >= 0 && bad <= 3 {
			read[bad] = lies[i]
		}
		next[i], _ = toldMiddle(read)
	}
	return next, api.OK
}

// toldSpread is P7.4: the greatest difference of two that are not bad.
func toldSpread(offsets [4]int, bad int) (int, api.Errno) {
	spread := 0
	for i, a := range offsets {
		if toldOut(a, 2*maxTime) {
			return 0, api.ErrRange
		}
		for j, b := range offsets {
			if i != bad && j != bad && !toldOut(b, 2*maxTime) {
				spread = max(spread, a-b)
			}
		}
	}
	return spread, api.OK
}

func toldOut(n, limit int) bool {
	return n > limit || n < -limit
}

func toldLeast(l []int) int {
	least := l[0]
	for _, n := range l {
		if n < least {
			least = n
		}
	}
	return least
}

func toldGreatest(l []int) int {
	greatest := l[0]
	for _, n := range l {
		if n > greatest {
			greatest = n
		}
	}
	return greatest
}

// toldWithout is the list without the first one that is n.
func toldWithout(l []int, n int) []int {
	for i := range l {
		if l[i] == n {
			return append(l[:i:i], l[i+1:]...)
		}
	}
	return l
}

// anyNumber is of all sizes alike, and often one that others are too.
func anyNumber(r *rand.Rand) int {
	switch r.Intn(6) {
	case 0:
		return []int{low, low + 1, -1, 0, 1, top - 1, top}[r.Intn(7)]
	case 1:
		return r.Intn(7) - 3
	}
	return int(r.Uint64()) >> r.Intn(64)
}

// near is mostly within a limit, at times at its edge, seldom one past it.
func near(r *rand.Rand, limit int) int {
	switch r.Intn(24) {
	case 0:
		return -limit
	case 1:
		return limit
	case 2:
		return limit + 1
	case 3:
		return -limit - 1
	case 4, 5, 6, 7:
		return r.Intn(9) - 4
	}
	return r.Intn(2*limit+1) - limit
}

func fourNear(r *rand.Rand, limit int) [4]int {
	return [4]int{near(r, limit), near(r, limit), near(r, limit), near(r, limit)}
}

// withRoom is a list with numbers behind its end that no call may touch.
func withRoom(l []int) []int {
	room := append(append([]int{}, l...), 91, 92, 93, 94, 95)
	return room[:len(l)]
}
