package agree

import (
	"slices"
	"testing"
)

func TestP8_3LiesInTurn(t *testing.T) {
	told := teller{bad: 2, lies: []int{4, low, 0, top}}
	for i, want := range []int{4, low, 0, top, 0, 0, 0} {
		// A good node's word uses up no lie.
		for _, good := range []int{0, 1, 3} {
			if got := told.next(good, 77); got != 77 {
				t.Errorf("ahead of lie %d node %d tells %d", i, good, got)
			}
		}
		if got := told.next(2, 77); got != want {
			t.Errorf("lie %d: %d; want %d", i, got, want)
		}
	}
}

// What the bad one tells on can't be seen in an answer, so its order is looked at here.
func TestP8_3ToldOnInOrder(t *testing.T) {
	for _, c := range []struct {
		bad, s int
		want   [4][]int
	}{
		{-1, 0, [4][]int{nil, {30, 40}, {20, 40}, {20, 30}}},
		{-1, 3, [4][]int{{20, 30}, {10, 30}, {10, 20}, nil}},
		{3, 0, [4][]int{nil, {30, 1}, {20, 2}, {20, 30}}},
		{0, 3, [4][]int{{20, 30}, {1, 30}, {2, 20}, nil}},
		{1, 2, [4][]int{{1, 40}, {10, 40}, nil, {10, 2}}},
		{2, 1, [4][]int{{1, 40}, nil, {10, 40}, {10, 2}}},
		{1, 1, [4][]int{{30, 40}, nil, {10, 40}, {10, 30}}},
	} {
		told := teller{bad: c.bad, lies: []int{1, 2, 3, 4}}
		got := told.on(c.s, [4]int{10, 20, 30, 40})
		for q := range got {
			if !slices.Equal(got[q], c.want[q]) {
				t.Errorf("%d bad, of %d: node %d hears %v; want %v", c.bad, c.s, q, got[q], c.want[q])
			}
		}
	}
}

func TestP8_3ToldFirstInOrder(t *testing.T) {
	for s, want := range [4][4]int{{0, 1, 2, 3}, {1, 0, 2, 3}, {1, 2, 0, 3}, {1, 2, 3, 0}} {
		told := teller{bad: s, lies: []int{1, 2, 3, 4}}
		if got := told.first(s, 50); got != want {
			t.Errorf("of %d: %v; want %v", s, got, want)
		}
	}
	told := teller{bad: 3, lies: []int{1, 2}}
	if got := told.first(1, 50); got != [4]int{50, 0, 50, 50} || len(told.lies) != 2 {
		t.Errorf("of a good one: %v, left %v", got, told.lies)
	}
}
