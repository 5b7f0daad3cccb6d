package clock

import (
	"iter"
	"slices"
	"testing"
)

// firstFew stops a sequence ahead of its end; one that would go on all the same makes the range panic.
func firstFew(seq iter.Seq[int], few int) []int {
	got := []int{}
	for n := range seq {
		got = append(got, n)
		if len(got) == few {
			break
		}
	}
	return got
}

func TestP7_3Readings(t *testing.T) {
	four := [4]int{4, 5, 6, 7}
	for bad, want := range [][]int{{9, 5, 6, 7}, {4, 9, 6, 7}, {4, 5, 9, 7}, {4, 5, 6, 9}, {4, 5, 6, 7}} {
		seq := readings(four, bad, 9)
		for few := 1; few <= 4; few++ {
			if got := firstFew(seq, few); !slices.Equal(got, want[:few]) {
				t.Errorf("readings with %d bad, %d of them: %v", bad, few, got)
			}
		}
	}
}

func TestP7_4Others(t *testing.T) {
	four := [4]int{4, 5, 6, 7}
	for bad, want := range [][]int{{5, 6, 7}, {4, 6, 7}, {4, 5, 7}, {4, 5, 6}, {4, 5, 6, 7}} {
		seq := others(four, bad)
		for few := 1; few <= len(want); few++ {
			if got := firstFew(seq, few); !slices.Equal(got, want[:few]) {
				t.Errorf("others with %d bad, %d of them: %v", bad, few, got)
			}
		}
	}
}
