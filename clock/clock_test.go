package clock

import (
	"math/rand"
	"slices"
	"testing"

	"fourwatch/api"
)

func checkLocal(t *testing.T, c api.Clock, at, want int, errno api.Errno) {
	t.Helper()
	if got, e := Local(c, at); got != want || e != errno {
		t.Errorf("Local(%v, %d): %d, %d; want %d, %d", c, at, got, e, want, errno)
	}
}

// checkMiddle looks at the answer, and that the list and what is behind its end stay as they were.
func checkMiddle(t *testing.T, l []int, want int, errno api.Errno) {
	t.Helper()
	room := withRoom(l)
	before := slices.Clone(room[:cap(room)])
	if got, e := Middle(room); got != want || e != errno {
		t.Errorf("Middle(%v): %d, %d; want %d, %d", l, got, e, want, errno)
	}
	if !slices.Equal(room[:cap(room)], before) {
		t.Errorf("Middle(%v) made of the list and its room: %v", l, room[:cap(room)])
	}
}

func checkRound(t *testing.T, offsets [4]int, bad int, lies, want [4]int, errno api.Errno) {
	t.Helper()
	if got, e := Round(offsets, bad, lies); got != want || e != errno {
		t.Errorf("Round(%v, %d, %v): %v, %d; want %v, %d", offsets, bad, lies, got, e, want, errno)
	}
}

func checkSpread(t *testing.T, offsets [4]int, bad, want int, errno api.Errno) {
	t.Helper()
	if got, e := Spread(offsets, bad); got != want || e != errno {
		t.Errorf("Spread(%v, %d): %d, %d; want %d, %d", offsets, bad, got, e, want, errno)
	}
}

func TestP7_1Local(t *testing.T) {
	for _, c := range []struct {
		c        api.Clock
		at, want int
	}{
		{api.Clock{}, 0, 0},
		{api.Clock{}, 77, 77},
		{api.Clock{Offset: 5}, 0, 5},
		{api.Clock{Offset: -5}, 3, -2},
		{api.Clock{Offset: 5, Rate: 100}, 1000000, 1000105},
		{api.Clock{Offset: 5, Rate: -100}, 1000000, 999905},
		{api.Clock{Offset: -7, Rate: 500}, 2000000, 2000993},
		{api.Clock{Rate: 3}, 10000000, 10000030},
		{api.Clock{Rate: -3}, 10000000, 9999970},
	} {
		checkLocal(t, c.c, c.at, c.want, api.OK)
	}
}

func TestP7_1RoundedDown(t *testing.T) {
	for _, c := range []struct{ rate, at, want int }{
		{1, 999999, 999999},
		{1, 1000000, 1000001},
		{1, 1999999, 2000000},
		{500, 1999, 1999},
		{500, 2000, 2001},
		{-1, 0, 0},
		{-1, 1, 0},
		{-1, 999999, 999998},
		{-1, 1000000, 999999},
		{-1, 1000001, 999999},
		{-1, 2000000, 1999998},
		{-500, 1, 0},
		{-500, 2000, 1999},
		{-500, 2001, 1999},
		{-3, 333333, 333332},
		{-3, 333334, 333332},
	} {
		checkLocal(t, api.Clock{Rate: c.rate}, c.at, c.want, api.OK)
		// The offset is no part of what is rounded.
		checkLocal(t, api.Clock{Offset: -9, Rate: c.rate}, c.at, c.want-9, api.OK)
	}
}

func TestP7_1Edges(t *testing.T) {
	const half = 1 << 30
	for _, offset := range []int{-half, 1 - half, half - 1, half} {
		checkLocal(t, api.Clock{Offset: offset}, 0, offset, api.OK)
	}
	for _, offset := range []int{-half - 1, half + 1, 1 << 31, -1 << 32, 1 << 32, top, low, low + 1} {
		checkLocal(t, api.Clock{Offset: offset}, 7, 0, api.ErrRange)
	}
	for _, rate := range []int{-500, -499, 499, 500} {
		checkLocal(t, api.Clock{Rate: rate}, 1000000, 1000000+rate, api.OK)
	}
	for _, rate := range []int{-501, 501, 1000, 1 << 32, top, low, low + 1} {
		checkLocal(t, api.Clock{Rate: rate}, 7, 0, api.ErrRange)
		checkLocal(t, api.Clock{Rate: rate}, 0, 0, api.ErrRange)
	}
	for _, at := range []int{0, 1, maxTime - 1, maxTime} {
		checkLocal(t, api.Clock{}, at, at, api.OK)
	}
	for _, at := range []int{-1, -2, maxTime + 1, 1 << 41, -maxTime, top, low, low + 1} {
		checkLocal(t, api.Clock{Offset: 4, Rate: 1}, at, 0, api.ErrRange)
	}
	// 2^40 * 500 / 1000000 is 549755813.888.
	checkLocal(t, api.Clock{Offset: half, Rate: 500}, maxTime, maxTime+half+549755813, api.OK)
	checkLocal(t, api.Clock{Offset: -half, Rate: -500}, maxTime, maxTime-half-549755814, api.OK)
}

func TestP7_1AllTogether(t *testing.T) {
	r := rand.New(rand.NewSource(71))
	for range 50000 {
		c := api.Clock{Offset: near(r, 1<<30), Rate: near(r, 500)}
		at := near(r, maxTime)
		if r.Intn(4) > 0 && at < 0 {
			at = -at
		}
		want, errno := toldLocal(c, at)
		checkLocal(t, c, at, want, errno)
	}
	for range 5000 {
		c := api.Clock{Offset: anyNumber(r), Rate: anyNumber(r)}
		at := anyNumber(r)
		want, errno := toldLocal(c, at)
		checkLocal(t, c, at, want, errno)
	}
}

func TestP7_2Middle(t *testing.T) {
	for _, c := range []struct {
		l    []int
		want int
	}{
		{[]int{7}, 7},
		{[]int{-7}, -7},
		{[]int{1, 4}, 2},
		{[]int{4, 1}, 2},
		{[]int{9, 1, 4}, 5},
		{[]int{100, 1, 3, 2}, 2},
		{[]int{100, 1, 4, 2}, 3},
		{[]int{5, 5, 5, 5}, 5},
		{[]int{5, 5, 9, 5}, 5},
		{[]int{5, 9, 9, 5}, 7},
		{[]int{1, 1, 4, 4, 4}, 2},
		{[]int{1, 2, 3, 50}, 2},
		{[]int{50, 40, 30, 20, 10, 0}, 25},
		{[]int{1, 2, 3, 4, 5, 6, 700}, 4},
		{[]int{700, -800, 3, 4, 5, 600, -700}, 4},
		{[]int{9, 0, 0, 0, 0, 0, 9, 9}, 4},
		{[]int{-1, -1, -1, 8, 0, 90, 91, 92, 93, 94}, 45},
	} {
		checkMiddle(t, c.l, c.want, api.OK)
	}
}

func TestP7_2AnyOrder(t *testing.T) {
	r := rand.New(rand.NewSource(72))
	for n := 1; n <= api.MaxClocks; n++ {
		l := make([]int, n)
		for i := range l {
			l[i] = i * i
		}
		// Of squares in their order it is plain which are left.
		away := (n - 1) / 3
		want := (l[away] + l[n-1-away]) / 2
		checkMiddle(t, l, want, api.OK)
		slices.Reverse(l)
		checkMiddle(t, l, want, api.OK)
		for range 5 {
			r.Shuffle(n, func(i, j int) { l[i], l[j] = l[j], l[i] })
			checkMiddle(t, l, want, api.OK)
		}
	}
}

func TestP7_2HalfRoundedDown(t *testing.T) {
	for _, c := range []struct{ a, b, want int }{
		{0, 1, 0},
		{-1, 0, -1},
		{-1, 2, 0},
		{-2, 1, -1},
		{-3, -2, -3},
		{-3, 0, -2},
		{-5, 2, -2},
		{top, top, top},
		{top - 1, top, top - 1},
		{low, low, low},
		{low, low + 1, low},
		{low, top, -1},
		{low, top - 1, -1},
		{low + 1, top, 0},
		{low, 0, low / 2},
		{low, 1, low / 2},
		{low + 1, 0, low / 2},
		{top, 0, top / 2},
		{top, 1, top/2 + 1},
		{top, -1, top / 2},
	} {
		checkMiddle(t, []int{c.a, c.b}, c.want, api.OK)
		checkMiddle(t, []int{c.b, c.a}, c.want, api.OK)
		checkMiddle(t, []int{c.b, low, c.a, top}, c.want, api.OK)
		checkMiddle(t, []int{top, c.b, c.a, low, c.b, low, top}[:4], c.want, api.OK)
	}
}

func TestP7_2Sizes(t *testing.T) {
	checkMiddle(t, nil, 0, api.ErrSize)
	checkMiddle(t, []int{}, 0, api.ErrSize)
	checkMiddle(t, []int{1, 2, 3}[:0], 0, api.ErrSize)
	if got, errno := Middle(nil); got != 0 || errno != api.ErrSize {
		t.Errorf("Middle(nil): %d, %d", got, errno)
	}
	for _, n := range []int{api.MaxClocks + 1, 66, 128, 256, 10000} {
		checkMiddle(t, slices.Repeat([]int{3}, n), 0, api.ErrSize)
	}
	for _, n := range []int{1, 2, 3, 4, api.MaxClocks - 1, api.MaxClocks} {
		checkMiddle(t, slices.Repeat([]int{3}, n), 3, api.OK)
	}
	// What stands behind the list's end is no part of it.
	checkMiddle(t, slices.Repeat([]int{3}, 100)[:api.MaxClocks], 3, api.OK)
}

func TestP7_2AllTogether(t *testing.T) {
	r := rand.New(rand.NewSource(73))
	for n := range api.MaxClocks + 4 {
		for range 200 {
			l := make([]int, n)
			for i := range l {
				l[i] = anyNumber(r)
			}
			want, errno := toldMiddle(l)
			checkMiddle(t, l, want, errno)
		}
	}
}

func TestP7_3Round(t *testing.T) {
	for _, c := range []struct {
		offsets      [4]int
		bad          int
		lies, expect [4]int
	}{
		{[4]int{0, 10, 20, 5}, 3, [4]int{1000, -1000, 12, 0}, [4]int{15, 5, 11, 5}},
		{[4]int{5, 0, 10, 20}, 0, [4]int{0, 1000, -1000, 12}, [4]int{5, 15, 5, 11}},
		{[4]int{20, 5, 0, 10}, 1, [4]int{12, 0, 1000, -1000}, [4]int{11, 5, 15, 5}},
		{[4]int{10, 20, 5, 0}, 2, [4]int{-1000, 12, 0, 1000}, [4]int{5, 11, 5, 15}},
		{[4]int{0, 10, 20, 5}, -1, [4]int{1000, -1000, 12, 0}, [4]int{7, 7, 7, 7}},
		{[4]int{0, -10, -20, -5}, -1, [4]int{}, [4]int{-8, -8, -8, -8}},
		{[4]int{-1, 0, -1, 0}, 4, [4]int{9, 9, 9, 9}, [4]int{-1, -1, -1, -1}},
		{[4]int{8, 8, 8, 99}, 3, [4]int{-5, 0, 5, 10}, [4]int{8, 8, 8, 99}},
	} {
		checkRound(t, c.offsets, c.bad, c.lies, c.expect, api.OK)
	}
}

// A clock reads the offsets as they were ahead of the round, not those that others have taken in it.
func TestP7_3AllAtOnce(t *testing.T) {
	checkRound(t, [4]int{-100, 0, 100, 300}, -1, [4]int{}, [4]int{50, 50, 50, 50}, api.OK)
	checkRound(t, [4]int{-100, 0, 100, 300}, 3, [4]int{300, 300, 300, 300}, [4]int{50, 50, 50, 300}, api.OK)
}

// The bad clock's own offset is read by nobody, and what it would tell itself neither.
func TestP7_3BadAlone(t *testing.T) {
	for bad := range 4 {
		lies := [4]int{1, 2, 3, 4}
		offsets := [4]int{10, 20, 30, 40}
		want, _ := Round(offsets, bad, lies)
		for _, own := range []int{-maxTime, -1, 0, 25, maxTime} {
			offsets[bad], want[bad] = own, own
			checkRound(t, offsets, bad, lies, want, api.OK)
		}
		for _, self := range []int{-maxTime, 0, 25, maxTime} {
			lies[bad] = self
			checkRound(t, offsets, bad, lies, want, api.OK)
		}
	}
}

func TestP7_3NoneBad(t *testing.T) {
	offsets := [4]int{3, -8, 40, 6}
	for _, bad := range []int{-1, 4, 5, -2, -4, 256, 1 << 32, -1 << 32, top, low} {
		for _, lie := range []int{-maxTime, 0, 5, maxTime} {
			checkRound(t, offsets, bad, [4]int{lie, -lie, lie, lie}, [4]int{4, 4, 4, 4}, api.OK)
		}
	}
}

func TestP7_3Edges(t *testing.T) {
	for bad := -1; bad <= 4; bad++ {
		for i := range 4 {
			for _, n := range []int{-maxTime, maxTime} {
				one := [4]int{}
				one[i] = n
				want, _ := toldRound(one, bad, [4]int{})
				checkRound(t, one, bad, [4]int{}, want, api.OK)
				want, _ = toldRound([4]int{1, 2, 3, 4}, bad, one)
				checkRound(t, [4]int{1, 2, 3, 4}, bad, one, want, api.OK)
			}
			for _, n := range []int{-maxTime - 1, maxTime + 1, 2 * maxTime, top, low, low + 1} {
				one := [4]int{1, 2, 3, 4}
				one[i] = n
				checkRound(t, one, bad, [4]int{}, [4]int{}, api.ErrRange)
				// A lie out of range is refused though nobody is told it.
				checkRound(t, [4]int{1, 2, 3, 4}, bad, one, [4]int{}, api.ErrRange)
				checkRound(t, one, bad, one, [4]int{}, api.ErrRange)
			}
		}
	}
	all := [4]int{maxTime, maxTime, maxTime, maxTime}
	checkRound(t, all, -1, all, all, api.OK)
	checkRound(t, all, 1, [4]int{-maxTime, -maxTime, -maxTime, -maxTime}, all, api.OK)
}

func TestP7_3AllTogether(t *testing.T) {
	r := rand.New(rand.NewSource(74))
	for range 50000 {
		limit := []int{3, 1000, maxTime}[r.Intn(3)]
		offsets, lies, bad := fourNear(r, limit), fourNear(r, limit), r.Intn(6)-1
		want, errno := toldRound(offsets, bad, lies)
		checkRound(t, offsets, bad, lies, want, errno)
	}
}

// The good clocks' new offsets stay among their old ones, and not further apart than half as much, whatever is told.
func TestP7_3Together(t *testing.T) {
	r := rand.New(rand.NewSource(75))
	for range 20000 {
		bad := r.Intn(5) - 1
		offsets := [4]int{r.Intn(2001) - 1000, r.Intn(2001) - 1000, r.Intn(2001) - 1000, r.Intn(2001) - 1000}
		next, errno := Round(offsets, bad, [4]int{r.Intn(9001) - 4500, r.Intn(9001) - 4500, r.Intn(9001) - 4500, r.Intn(9001) - 4500})
		before, _ := Spread(offsets, bad)
		if after, _ := Spread(next, bad); errno != api.OK || after > before/2+1 {
			t.Fatalf("%v with %d bad becomes %v, %d", offsets, bad, next, errno)
		}
	}
}

func TestP7_4Spread(t *testing.T) {
	for _, c := range []struct {
		offsets   [4]int
		bad, want int
	}{
		{[4]int{0, 10, 20, -500}, 3, 20},
		{[4]int{0, 10, 20, -500}, 0, 520},
		{[4]int{0, 10, 20, -500}, 1, 520},
		{[4]int{0, 10, 20, -500}, 2, 510},
		{[4]int{0, 10, 20, -500}, -1, 520},
		{[4]int{900, 10, 20, 30}, 0, 20},
		{[4]int{10, -900, 20, 30}, 1, 20},
		{[4]int{10, 20, 900, 30}, 2, 20},
		{[4]int{-10, -20, -30, -45}, -1, 35},
		{[4]int{-10, -20, -30, -45}, 3, 20},
		{[4]int{6, 6, 6, 6}, 2, 0},
		{[4]int{6, 6, 6, 7}, 3, 0},
		{[4]int{6, 6, 6, 7}, 2, 1},
		{[4]int{}, 0, 0},
	} {
		checkSpread(t, c.offsets, c.bad, c.want, api.OK)
	}
	for _, bad := range []int{-1, 4, 5, -2, -4, 256, 1 << 32, -1 << 32, top, low} {
		checkSpread(t, [4]int{4, -3, 2, 1}, bad, 7, api.OK)
	}
}

func TestP7_4Edges(t *testing.T) {
	const limit = 2 * maxTime
	checkSpread(t, [4]int{limit, -limit, 0, 0}, -1, 2*limit, api.OK)
	checkSpread(t, [4]int{-limit, 1, 2, limit}, 0, limit-1, api.OK)
	checkSpread(t, [4]int{maxTime + 1, 0, 0, 0}, -1, maxTime+1, api.OK)
	for bad := -1; bad <= 4; bad++ {
		for i := range 4 {
			for _, n := range []int{-limit, limit} {
				one := [4]int{1, 2, 3, 4}
				one[i] = n
				want, _ := toldSpread(one, bad)
				checkSpread(t, one, bad, want, api.OK)
			}
			// The bad one's offset is looked at too.
			for _, n := range []int{-limit - 1, limit + 1, 2 * limit, top, low, low + 1} {
				one := [4]int{1, 2, 3, 4}
				one[i] = n
				checkSpread(t, one, bad, 0, api.ErrRange)
			}
		}
	}
}

func TestP7_4AllTogether(t *testing.T) {
	r := rand.New(rand.NewSource(76))
	for range 50000 {
		limit := []int{3, 1000, maxTime, 2 * maxTime}[r.Intn(4)]
		offsets, bad := fourNear(r, limit), r.Intn(6)-1
		want, errno := toldSpread(offsets, bad)
		checkSpread(t, offsets, bad, want, errno)
	}
}
