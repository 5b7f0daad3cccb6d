package agree

import (
	"math"
	"math/rand"
)

const (
	top = math.MaxInt
	low = math.MinInt
)

// toldMajority is P8.1 as it is told: each number of the list is counted.
func toldMajority(l []int, other int) int {
	for _, n := range l {
		alike, unlike := 0, 0
		for _, m := range l {
			if m == n {
				alike++
			} else {
				unlike++
			}
		}
		if alike > unlike {
			return n
		}
	}
	return other
}

// toldDecide is P8.2, two by two.
func toldDecide(direct, first, second int) int {
	if direct == first || direct == second {
		return direct
	}
	if first == second {
		return first
	}
	return 0
}

// word is one thing told: what s said, by whom and to whom.
type word struct{ s, from, to int }

// toldWords is all that is told, in P8.3's order.
func toldWords() []word {
	all := []word{}
	for s := range 4 {
		for r := range 4 {
			if r != s {
				all = append(all, word{s, s, r})
			}
		}
		for r := range 4 {
			for q := range 4 {
				if r != s && q != s && q != r {
					all = append(all, word{s, r, q})
				}
			}
		}
	}
	return all
}

// toldVectors is P8.3: all that is told is laid down word by word, and then looked up.
func toldVectors(values [4]int, bad int, lies []int) [4][4]int {
	heard, used := map[word]int{}, 0
	for _, w := range toldWords() {
		switch {
		case w.from == bad && used < len(lies):
			heard[w] = lies[used]
			used++
		case w.from == bad:
			heard[w] = 0
		case w.from == w.s:
			heard[w] = values[w.s]
		default:
			heard[w] = heard[word{w.s, w.s, w.from}]
		}
	}
	taken := [4][4]int{}
	for q := range 4 {
		for s := range 4 {
			taken[q][s] = values[s]
			if q != s {
				first, second := toldOthers(q, s)
				taken[q][s] = toldDecide(heard[word{s, s, q}], heard[word{s, first, q}], heard[word{s, second, q}])
			}
		}
	}
	return taken
}

// toldOthers is the two nodes that are neither of two.
func toldOthers(q, s int) (int, int) {
	two := []int{}
	for n := range 4 {
		if n != q && n != s {
			two = append(two, n)
		}
	}
	return two[0], two[1]
}

// anyNumber is of all sizes alike, and often one that others are too.
func anyNumber(r *rand.Rand) int {
	switch r.Intn(4) {
	case 0:
		return []int{low, low + 1, -1, 0, 1, top - 1, top}[r.Intn(7)]
	case 1:
		return int(r.Uint64()) >> r.Intn(64)
	}
	return r.Intn(3)
}

func anyList(r *rand.Rand, n int) []int {
	l := make([]int, n)
	for i := range l {
		l[i] = anyNumber(r)
	}
	return l
}

// withRoom is a list with numbers behind its end that no call may touch, nor take for a part of it.
func withRoom(l []int) []int {
	room := append(append([]int{}, l...), 91, 92, 93, 94, 95)
	return room[:len(l)]
}
