package vote

import (
	"math"
	"math/rand"
)

const (
	top = math.MaxInt
	low = math.MinInt
)

// verdict is an answer that can be held against another by ==.
type verdict struct {
	value  int
	strong bool
	agree  [4]bool
}

// toldVote is P9.1 as it is told, each node that is in held against each.
func toldVote(l [4]int, in [4]bool) verdict {
	best, bestHave, voters := -1, 0, 0
	for n := range 4 {
		if !in[n] {
			continue
		}
		voters++
		if have := toldHave(l, in, l[n]); have > bestHave {
			best, bestHave = n, have
		}
	}
	if best < 0 {
		return verdict{}
	}
	agree := [4]bool{l[0] == l[best], l[1] == l[best], l[2] == l[best], l[3] == l[best]}
	return verdict{l[best], bestHave > voters-bestHave, agree}
}

// toldHave is how many of those that are in have a vote.
func toldHave(l [4]int, in [4]bool, vote int) int {
	have := 0
	for n := range 4 {
		if in[n] && l[n] == vote {
			have++
		}
	}
	return have
}

// those is which of the four are in, a character each: + for one that is.
func those(text string) [4]bool {
	return [4]bool{text[0] == '+', text[1] == '+', text[2] == '+', text[3] == '+'}
}

// eachIn is every set of nodes that can be in.
func eachIn() [][4]bool {
	all := [][4]bool{}
	for n := range 16 {
		all = append(all, [4]bool{n&1 != 0, n&2 != 0, n&4 != 0, n&8 != 0})
	}
	return all
}

// anyNumber is of all sizes alike, and often one that others are too.
func anyNumber(r *rand.Rand) int {
	switch r.Intn(4) {
	case 0:
		return []int{low, low + 1, -1, 0, 1, top - 1, top}[r.Intn(7)]
	case 1:
		return int(r.Uint64()) >> r.Intn(64)
	}
	return r.Intn(3)
}
