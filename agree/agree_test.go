package agree

import (
	"math/rand"
	"slices"
	"testing"
)

// checkMajority looks at the answer, and that the list and what is behind its end stay as they were.
func checkMajority(t *testing.T, l []int, other, want int) {
	t.Helper()
	room := withRoom(l)
	before := slices.Clone(room[:cap(room)])
	if got := Majority(room, other); got != want {
		t.Errorf("Majority(%v, %d): %d; want %d", l, other, got, want)
	}
	if !slices.Equal(room[:cap(room)], before) {
		t.Errorf("Majority(%v, %d) made of the list and its room: %v", l, other, room[:cap(room)])
	}
}

func checkDecide(t *testing.T, direct, first, second, want int) {
	t.Helper()
	if got := Decide(direct, first, second); got != want {
		t.Errorf("Decide(%d, %d, %d): %d; want %d", direct, first, second, got, want)
	}
}

// checkVectors looks at the answer, and that the lies and what is behind their end stay as they were.
func checkVectors(t *testing.T, values [4]int, bad int, lies []int, want [4][4]int) {
	t.Helper()
	room := withRoom(lies)
	before := slices.Clone(room[:cap(room)])
	if got := Vectors(values, bad, room); got != want {
		t.Errorf("Vectors(%v, %d, %v): %v; want %v", values, bad, lies, got, want)
	}
	if !slices.Equal(room[:cap(room)], before) {
		t.Errorf("Vectors(%v, %d, %v) made of the lies and their room: %v", values, bad, lies, room[:cap(room)])
	}
}

func TestP8_1Majority(t *testing.T) {
	for _, c := range []struct {
		l    []int
		want int
	}{
		{[]int{4, 4, 4, 1, 2}, 4},
		{[]int{1, 4, 4, 4, 2}, 4},
		{[]int{1, 2, 4, 4, 4}, 4},
		{[]int{4, 1, 4, 2, 4}, 4},
		{[]int{4, 1, 2, 4, 4}, 4},
		{[]int{4, 4, 1, 2, 4}, 4},
		{[]int{1, 1, 4, 4, 4}, 4},
		{[]int{4, 4, 4, 1, 1}, 4},
		{[]int{-3, 8, -3, -3}, -3},
		{[]int{1, 2, 3, 4, 5}, 99},
		{[]int{4, 4, 1, 2, 3}, 99},
		{[]int{1, 2, 4, 3, 4}, 99},
		{[]int{4, 4, 1, 1, 2}, 99},
		{[]int{1, 1, 2, 2, 3, 3, 3}, 99},
		{[]int{1, 1, 1, 2, 2, 2, 3}, 99},
		{[]int{3, 1, 1, 1, 2, 2, 2}, 99},
		{[]int{7, 7, 7, 7, 7, 7}, 7},
	} {
		checkMajority(t, c.l, 99, c.want)
	}
}

func TestP8_1Short(t *testing.T) {
	for _, other := range []int{0, 1, -1, 91, top, low} {
		checkMajority(t, nil, other, other)
		checkMajority(t, []int{}, other, other)
		checkMajority(t, []int{6}[:0], other, other)
		for _, n := range []int{0, 1, -5, top, low} {
			checkMajority(t, []int{n}, other, n)
			checkMajority(t, []int{n, n}, other, n)
			checkMajority(t, []int{n, n + 1}, other, other)
			checkMajority(t, []int{n + 1, n}, other, other)
		}
	}
	if got := Majority(nil, 12); got != 12 {
		t.Errorf("Majority(nil, 12): %d", got)
	}
}

// Just half is no majority; one more than half is. They stand in front, at the end and in any order.
func TestP8_1Half(t *testing.T) {
	r := rand.New(rand.NewSource(81))
	for n := 1; n <= 65; n++ {
		for alike := max(0, n/2-1); alike <= min(n, n/2+2); alike++ {
			l := make([]int, n)
			for i := range l {
				l[i] = 1000 + i
				if i < alike {
					l[i] = 5
				}
			}
			want := -7
			if alike > n-alike {
				want = 5
			} else if n == 1 {
				want = l[0]
			}
			checkMajority(t, l, -7, want)
			slices.Reverse(l)
			checkMajority(t, l, -7, want)
			for range 5 {
				r.Shuffle(n, func(i, j int) { l[i], l[j] = l[j], l[i] })
				checkMajority(t, l, -7, want)
			}
		}
	}
}

// Two numbers share a list: that of the more is taken, and none where they are as many.
func TestP8_1TwoNumbers(t *testing.T) {
	for a := range 20 {
		for b := range 20 {
			want := -1
			if a > b {
				want = 3
			} else if b > a {
				want = 8
			}
			l := append(slices.Repeat([]int{3}, a), slices.Repeat([]int{8}, b)...)
			checkMajority(t, l, -1, want)
			slices.Reverse(l)
			checkMajority(t, l, -1, want)
		}
	}
}

func TestP8_1OtherAndNought(t *testing.T) {
	checkMajority(t, []int{9, 9, 1}, 9, 9)
	checkMajority(t, []int{9, 2, 1}, 9, 9)
	checkMajority(t, []int{9, 9, 1, 1}, 9, 9)
	checkMajority(t, []int{9, 9, 1, 1}, 1, 1)
	checkMajority(t, []int{9, 1, 1}, 9, 1)
	checkMajority(t, []int{0, 0, 1}, 9, 0)
	checkMajority(t, []int{1, 0, 0}, 9, 0)
	checkMajority(t, []int{0, 1, 0, 1}, 9, 9)
	checkMajority(t, []int{0, 0, 1, 2}, 9, 9)
	checkMajority(t, []int{1, 2, 3}, 0, 0)
	checkMajority(t, []int{0}, 9, 0)
}

func TestP8_1Ends(t *testing.T) {
	for _, c := range []struct {
		l    []int
		want int
	}{
		{[]int{top, low, top}, top},
		{[]int{low, top, low}, low},
		{[]int{low, top}, 99},
		{[]int{top, top - 1, top - 1}, top - 1},
		{[]int{low, low + 1, low}, low},
		{[]int{top, top, low, low}, 99},
		{[]int{1, 1 + 1<<32, 1 + 1<<32}, 1 + 1<<32},
		{[]int{1, 1 + 1<<32, 1 + 2<<32}, 99},
		{[]int{-1, 1<<32 - 1, 1<<31 - 1}, 99},
	} {
		checkMajority(t, c.l, 99, c.want)
	}
}

func TestP8_1AllTogether(t *testing.T) {
	r := rand.New(rand.NewSource(82))
	for n := range 40 {
		for range 500 {
			l, other := anyList(r, n), anyNumber(r)
			checkMajority(t, l, other, toldMajority(l, other))
			// A list of few numbers has a majority often.
			for i := range l {
				l[i] = l[i*r.Intn(2)]
			}
			checkMajority(t, l, other, toldMajority(l, other))
		}
	}
}

// Every list of up to six numbers out of three.
func TestP8_1EveryShortList(t *testing.T) {
	for n := range 7 {
		lists := 1
		for range n {
			lists *= 3
		}
		for code := range lists {
			l := make([]int, n)
			for i := range l {
				l[i], code = code%3-1, code/3
			}
			checkMajority(t, l, 44, toldMajority(l, 44))
		}
	}
}

func TestP8_1Long(t *testing.T) {
	l := slices.Repeat([]int{7, 3}, 500000)
	checkMajority(t, l, -2, -2)
	l[len(l)-1] = 7
	checkMajority(t, l, -2, 7)
	for i := range l {
		l[i] = i
	}
	checkMajority(t, l, -2, -2)
}

func TestP8_2Decide(t *testing.T) {
	for _, c := range []struct{ direct, first, second, want int }{
		{7, 7, 7, 7},
		{7, 8, 7, 7},
		{7, 7, 8, 7},
		{8, 7, 7, 7},
		{7, 8, 9, 0},
		{9, 8, 7, 0},
		{9, -9, 0, 0},
		{0, 8, 9, 0},
		{0, 0, 0, 0},
		{0, 0, 5, 0},
		{0, 5, 5, 5},
		{5, 0, 5, 5},
		{5, 5, 0, 5},
		{5, 0, 0, 0},
		{-1, -1, 1, -1},
		{top, low, top, top},
		{low, low, top, low},
		{top, low, low, low},
		{top, low, 0, 0},
		{top, top - 1, low, 0},
		{1 << 32, 0, 2 << 32, 0},
	} {
		checkDecide(t, c.direct, c.first, c.second, c.want)
	}
	some := []int{low, -2, -1, 0, 1, 2, top}
	for _, a := range some {
		for _, b := range some {
			for _, c := range some {
				checkDecide(t, a, b, c, toldDecide(a, b, c))
			}
		}
	}
}

// With lies enough, each node bad in turn; all lies differ, so that each order other than the told one shows.
func TestP8_3EachBad(t *testing.T) {
	values := [4]int{5, 6, 7, 8}
	for _, c := range []struct {
		bad  int
		lies []int
		want [4][4]int
	}{
		// The bad one speaks first: 1, 1 and 2 of its own; nothing that it tells on counts.
		{0, []int{1, 1, 2, 31, 32, 33, 34, 35, 36}, [4][4]int{{5, 6, 7, 8}, {1, 6, 7, 8}, {1, 6, 7, 8}, {1, 6, 7, 8}}},
		{0, []int{1, 2, 3, 31, 32, 33, 34, 35, 36}, [4][4]int{{5, 6, 7, 8}, {0, 6, 7, 8}, {0, 6, 7, 8}, {0, 6, 7, 8}}},
		// Two lies on are told ahead of node 1's own three, four ahead of node 2's, six ahead of node 3's.
		{1, []int{31, 32, 1, 1, 2, 33, 34, 35, 36}, [4][4]int{{5, 1, 7, 8}, {5, 6, 7, 8}, {5, 1, 7, 8}, {5, 1, 7, 8}}},
		{1, []int{31, 31, 31, 1, 2, 1, 1, 1, 1}, [4][4]int{{5, 0, 7, 8}, {5, 6, 7, 8}, {5, 0, 7, 8}, {5, 0, 7, 8}}},
		{2, []int{31, 32, 33, 34, 1, 2, 1, 35, 36}, [4][4]int{{5, 6, 1, 8}, {5, 6, 1, 8}, {5, 6, 7, 8}, {5, 6, 1, 8}}},
		{2, []int{1, 1, 1, 1, 2, 1, 3, 1, 1}, [4][4]int{{5, 6, 0, 8}, {5, 6, 0, 8}, {5, 6, 7, 8}, {5, 6, 0, 8}}},
		{3, []int{31, 32, 33, 34, 35, 36, 2, 1, 1}, [4][4]int{{5, 6, 7, 1}, {5, 6, 7, 1}, {5, 6, 7, 1}, {5, 6, 7, 8}}},
		{3, []int{9, 9, 9, 9, 9, 9, 1, 2, 3}, [4][4]int{{5, 6, 7, 0}, {5, 6, 7, 0}, {5, 6, 7, 0}, {5, 6, 7, 8}}},
	} {
		checkVectors(t, values, c.bad, c.lies, c.want)
	}
}

// As none is bad, or all that the bad one tells is true, each node knows all.
func TestP8_3NoneBad(t *testing.T) {
	values := [4]int{5, -6, top, low}
	all := [4][4]int{values, values, values, values}
	for _, bad := range []int{-1, 4, 5, -2, -4, 256, 1 << 32, -1 << 32, 1<<32 + 3, top, low} {
		checkVectors(t, values, bad, nil, all)
		checkVectors(t, values, bad, []int{}, all)
		checkVectors(t, values, bad, slices.Repeat([]int{9}, 40), all)
	}
	truth := [4][]int{
		{5, 5, 5, -6, -6, top, top, low, low},
		{5, 5, -6, -6, -6, top, top, low, low},
		{5, 5, -6, -6, top, top, top, low, low},
		{5, 5, -6, -6, top, top, low, low, low},
	}
	for bad, lies := range truth {
		checkVectors(t, values, bad, lies, all)
	}
	checkVectors(t, [4]int{}, -1, nil, [4][4]int{})
	checkVectors(t, [4]int{}, 2, nil, [4][4]int{})
}

// Where the lies are over, the bad one tells noughts.
func TestP8_3LiesOver(t *testing.T) {
	values := [4]int{5, 6, 7, 8}
	for bad := range 4 {
		want := [4][4]int{values, values, values, values}
		for q := range 4 {
			if q != bad {
				want[q][bad] = 0
			}
		}
		checkVectors(t, values, bad, nil, want)
		checkVectors(t, values, bad, []int{}, want)
		checkVectors(t, values, bad, []int{4, 4, 4}[:0], want)
		// Of the lies told first only the last one is missing: two are alike, so they are taken.
		ahead := 2 * bad
		lies := slices.Repeat([]int{4}, ahead+2)
		for q := range 4 {
			if q != bad {
				want[q][bad] = 4
			}
		}
		checkVectors(t, values, bad, lies, want)
		// Two of them are missing: two noughts.
		for q := range 4 {
			if q != bad {
				want[q][bad] = 0
			}
		}
		checkVectors(t, values, bad, lies[:ahead+1], want)
	}
}

// What the numbers behind the nine that are told might be makes no difference.
func TestP8_3MoreLies(t *testing.T) {
	r := rand.New(rand.NewSource(83))
	for range 2000 {
		values, bad := [4]int(anyList(r, 4)), r.Intn(4)
		lies := anyList(r, 9+r.Intn(500))
		checkVectors(t, values, bad, lies, Vectors(values, bad, lies[:9]))
		checkVectors(t, values, bad, lies, toldVectors(values, bad, lies))
	}
}

// What a good one says is taken by all, whatever the bad one tells; of a bad one all others take the same.
func TestP8_3Agreed(t *testing.T) {
	r := rand.New(rand.NewSource(84))
	for range 5000 {
		values, bad := [4]int(anyList(r, 4)), r.Intn(4)
		got := Vectors(values, bad, anyList(r, r.Intn(12)))
		same := (bad + 1) % 4
		for q, row := range got {
			for s, said := range row {
				if want := values[s]; (s != bad || q == bad) && said != want {
					t.Fatalf("%v with %d bad: node %d takes %d for said by %d", values, bad, q, said, s)
				}
			}
			if q != bad && row != got[same] {
				t.Fatalf("%v with %d bad: %v", values, bad, got)
			}
		}
	}
}

func TestP8_3AllTogether(t *testing.T) {
	r := rand.New(rand.NewSource(85))
	for range 50000 {
		values, bad := [4]int(anyList(r, 4)), r.Intn(6)-1
		lies := anyList(r, r.Intn(12))
		checkVectors(t, values, bad, lies, toldVectors(values, bad, lies))
	}
}

// Every choice of lies told first out of four numbers, for each node bad and each count of lies.
func TestP8_3EveryLie(t *testing.T) {
	values := [4]int{1, 2, 3, 1}
	for bad := range 4 {
		for code := range 64 {
			lies := slices.Repeat([]int{2}, 9)
			for i := range 3 {
				lies[2*bad+i] = code >> (2 * i) & 3
			}
			for n := range 10 {
				checkVectors(t, values, bad, lies[:n:n], toldVectors(values, bad, lies[:n]))
			}
		}
	}
}

// What one call has used up of the lies is there again for the next one.
func TestP8_3NothingKept(t *testing.T) {
	lies := []int{1, 1, 2, 3, 4}
	first := Vectors([4]int{5, 6, 7, 8}, 0, lies)
	Vectors([4]int{1, 2, 3, 4}, 3, lies[2:])
	if again := Vectors([4]int{5, 6, 7, 8}, 0, lies); again != first {
		t.Errorf("first %v, then %v", first, again)
	}
}
