package node

import (
	"slices"
	"testing"

	"fourwatch/api"
)

// held is a computer whose axes stay in Decide, but that each misses one reading more: no time goes on, and the gate lets nothing in.
func held() api.Node {
	n := full(1)
	n.Tuning = api.Tuning{Gate: low, R: api.One}
	return n
}

// The sums were reckoned by another program.
func TestP12_5Digest(t *testing.T) {
	below, noCounts, none, bent := held(), held(), held(), held()
	below.Axis[0] = api.State{X: -1, V: low, P00: top, P01: -258, P11: -1 << 32, Missed: 16}
	noCounts.Roll.Miss, noCounts.Roll.Join = [4]int{top, low, 9, -9}, [4]int{-1, 8, 1 << 62, -3}
	none.Axis, none.Roll = [3]api.State{{Missed: -1}, {Missed: -1}, {Missed: -1}}, api.Roll{}
	bent.Axis[0].Bent, bent.Axis[1].Bent, bent.Axis[2].Bent = true, false, true
	for _, c := range []struct {
		n       api.Node
		state   []int
		digest  int
		differs string
	}{
		{held(), []int{10, 11, 12, 13, 14, 0, 17, 20, 21, 22, 23, 24, 1, 27, 30, 31, 32, 33, 34, 0, 37, 13, 528, 128}, 0x1907DAB5, "ordinary"},
		{below, []int{-1, low, top, -258, -1 << 32, 0, 17, 20, 21, 22, 23, 24, 1, 27, 30, 31, 32, 33, 34, 0, 37, 13, 528, 128}, 0x9FD382E7, "below 0"},
		{noCounts, []int{10, 11, 12, 13, 14, 0, 17, 20, 21, 22, 23, 24, 1, 27, 30, 31, 32, 33, 34, 0, 37, 13, -449, -3}, 0x36894FCC, "no counts"},
		{none, make([]int, 24), 0x8BFF08F2, "noughts"},
		{bent, []int{10, 11, 12, 13, 14, 1, 17, 20, 21, 22, 23, 24, 0, 27, 30, 31, 32, 33, 34, 1, 37, 13, 528, 128}, 0x1387DCD3, "bent"},
	} {
		got, beside := check(t, decide(), c.n, nil)
		if got.Digest != c.digest || !slices.Equal(beside.message.Vals, []int{c.digest}) || got.Heard[1] != c.digest {
			t.Errorf("%s: digest %x, %v; want %x", c.differs, got.Digest, beside.message, c.digest)
		}
		if l := numbers(got.Axis, got.Roll); !slices.Equal(l, c.state) {
			t.Errorf("%s: %v; want %v", c.differs, l, c.state)
		}
	}
}

// Each of the 24 numbers has its place, and each has a say in the digest.
func TestP12_5EachNumber(t *testing.T) {
	n := held()
	n.Axis, n.Roll = [3]api.State{}, api.Roll{}
	seen := map[int]int{}
	for i := range 3 {
		for at, change := range []func(*api.State){
			func(s *api.State) { s.X = -7 },
			func(s *api.State) { s.V = -7 },
			func(s *api.State) { s.P00 = -7 },
			func(s *api.State) { s.P01 = -7 },
			func(s *api.State) { s.P11 = -7 },
			func(s *api.State) { s.Bent = true },
			func(s *api.State) { s.Missed = -7 },
		} {
			one := n
			change(&one.Axis[i])
			want := make([]int, 24)
			want[7*i+at] = -7
			if at == 5 {
				want[7*i+at] = 1
			}
			checkNumbers(t, one, want)
			got, _ := check(t, decide(), one, nil)
			seen[got.Digest]++
		}
	}
	if len(seen) != 21 {
		t.Errorf("%d digests of 21 states", len(seen))
	}
}

// checkNumbers holds a state in numbers as Judge tells it: with a weak verdict, so that the roll stays.
func checkNumbers(t *testing.T, n api.Node, want []int) {
	t.Helper()
	n.Heard = [4]int{0, 1, 2, 3}
	n.Heard[n.Id] = 9
	_, beside := check(t, judge(), n, all(n.Id, 2, n.Heard[:]...))
	if !slices.Equal(beside.message.Vals, want) {
		t.Errorf("the state of %v and %v in numbers: %v; want %v", n.Axis, n.Roll, beside.message.Vals, want)
	}
}

func TestP12_5RollInNumbers(t *testing.T) {
	axes := toldNumbers(held())[:21]
	for set := range 16 {
		n := held()
		n.Roll = inOf(set)
		if set == 1 || set == 2 || set == 4 || set == 8 {
			// One alone is strong, and has itself for right; the others begin to join, if they say the same.
			continue
		}
		checkNumbers(t, n, append(slices.Clone(axes), set, 0, 0))
	}
	for node, weight := range []int{512, 64, 8, 1} {
		for count := range 3 {
			n := held()
			n.Roll = inOf(15)
			n.Roll.Miss[node] = count
			checkNumbers(t, n, append(slices.Clone(axes), 15, count*weight, 0))
			n.Roll = inOf(0)
			n.Roll.Join[node] = count
			checkNumbers(t, n, append(slices.Clone(axes), 0, 0, count*weight))
		}
	}
}

// Counts that are no counts run into one another, and wrap round.
func TestP12_5NoCounts(t *testing.T) {
	axes := toldNumbers(held())[:21]
	for _, c := range []struct {
		counts [4]int
		number int
	}{
		{[4]int{7, 7, 7, 7}, 4095},
		{[4]int{0, 0, 0, 8}, 8},
		{[4]int{1, 2, 3, 100}, 512 + 128 + 24 + 100},
		{[4]int{0, 0, 0, -1}, -1},
		{[4]int{1, -8, 0, 0}, 0},
		{[4]int{-1, -1, -1, -1}, -585},
		{[4]int{1 << 55, 0, 0, 5}, 5},
		{[4]int{1 << 54, 0, 0, 0}, low},
		{[4]int{1 << 54, 0, 0, -1}, top},
		{[4]int{0, 0, 0, low}, low},
		{[4]int{0, 0, top, top}, top - 8},
	} {
		n := held()
		n.Roll = api.Roll{In: [4]bool{true, true, true, true}, Miss: c.counts}
		n.Roll.Join[0] = 1
		checkNumbers(t, n, append(slices.Clone(axes), 15, c.number, 512))
		n.Roll.Miss, n.Roll.Join = [4]int{9, 0, 0, 0}, c.counts
		checkNumbers(t, n, append(slices.Clone(axes), 15, 9*512, c.number))
	}
}

// lost is a computer whose digest lost; other is a state that is not its own.
func lost(id int) api.Node { return full(id) }

func other() []int {
	return []int{-1, low, top, 3, -4, 1, 6, 7, 8, 9, 10, 11, 0, -13, 14, 15, 16, 17, 18, 1, 20, 11, 1*512 + 2*64, 2 * 8}
}

// followed is a computer with that state.
func followed(n api.Node) api.Node {
	n.Axis = [3]api.State{
		{X: -1, V: low, P00: top, P01: 3, P11: -4, Bent: true, Missed: 6},
		{X: 7, V: 8, P00: 9, P01: 10, P11: 11, Bent: false, Missed: -13},
		{X: 14, V: 15, P00: 16, P01: 17, P11: 18, Bent: true, Missed: 20},
	}
	n.Roll = api.Roll{In: [4]bool{true, true, false, true}, Miss: [4]int{1, 2, 0, 0}, Join: [4]int{0, 0, 2, 0}}
	return n
}

// checkClose wants a computer, and the report that is to go with it.
func checkClose(t *testing.T, n api.Node, in []api.Message, want api.Node) {
	t.Helper()
	report := api.Report{
		Node:   want.Id,
		Frame:  want.Frame,
		Used:   want.Used,
		Place:  [3]int{want.Axis[0].X, want.Axis[1].X, want.Axis[2].X},
		Digest: want.Digest,
		Strong: want.Verdict.Strong,
		In:     want.Roll.In,
	}
	if got, beside := check(t, closing(), n, in); !sameNode(got, want) || beside.report != report {
		t.Errorf("Close(%v, %v):\n%v, %v; want\n%v, %v", n, in, got, beside.report, want, report)
	}
}

// Each pair of the others, told in either order; the third one tells nothing, or another thing.
func TestP12_8EachPair(t *testing.T) {
	strange := other()
	strange[1]++
	eachOther(func(id, third int) {
		a, b := toldTwo(id, third)
		want := followed(lost(id))
		checkClose(t, lost(id), []api.Message{from(a, 5, other()...), from(b, 5, other()...)}, want)
		checkClose(t, lost(id), []api.Message{from(b, 5, other()...), from(a, 5, other()...)}, want)
		checkClose(t, lost(id), []api.Message{from(third, 5, strange...), from(b, 5, other()...), from(a, 5, other()...)}, want)
	})
}

func TestP12_8AllAlike(t *testing.T) {
	for id := range 4 {
		checkClose(t, lost(id), all(id, 5, other()...), followed(lost(id)))
	}
}

// One alone is no pair, nor is it with the computer itself, nor with itself.
func TestP12_8NoPair(t *testing.T) {
	eachOther(func(id, node int) {
		checkClose(t, lost(id), nil, lost(id))
		checkClose(t, lost(id), []api.Message{from(node, 5, other()...)}, lost(id))
		checkClose(t, lost(id), []api.Message{from(node, 5, other()...), from(node, 5, other()...)}, lost(id))
		checkClose(t, lost(id), []api.Message{from(node, 5, other()...), from(id, 5, other()...)}, lost(id))
	})
}

// Alike in all numbers: a difference in any of them is enough.
func TestP12_8NoPairAlike(t *testing.T) {
	for at := range 24 {
		second, third := other(), other()
		second[at]++
		third[at]--
		checkClose(t, lost(2), []api.Message{from(0, 5, other()...), from(1, 5, second...), from(3, 5, third...)}, lost(2))
	}
}

// The first message of a node that fits is the one that makes a pair.
func TestP12_8FirstOfANode(t *testing.T) {
	strange := other()
	strange[0] = 5
	in := []api.Message{from(1, 5, strange...), from(1, 5, other()...), from(3, 5, other()...)}
	checkClose(t, lost(0), in, lost(0))
	checkClose(t, lost(0), append(in, from(2, 5, other()...)), followed(lost(0)))
}

func TestP12_8NotStrong(t *testing.T) {
	n := lost(1)
	n.Verdict.Strong = false
	checkClose(t, n, all(1, 5, other()...), n)
}

// A computer whose digest won keeps its state, whatever the others tell, and though it dissented by its Agree.
func TestP12_8DigestWon(t *testing.T) {
	for _, digest := range []int{0, 400, -1, low, top, 1 << 32} {
		n := lost(1)
		n.Digest, n.Verdict.Value = digest, digest
		checkClose(t, n, all(1, 5, other()...), n)
		n.Verdict.Agree = make([]bool, 4)
		checkClose(t, n, all(1, 5, other()...), n)
		n.Digest = digest ^ 1<<32
		checkClose(t, n, all(1, 5, other()...), followed(n))
		n.Digest, n.Verdict.Agree = digest^1, []bool{true, true, true, true}
		checkClose(t, n, all(1, 5, other()...), followed(n))
	}
}

// changed is the other state with one number in a place.
func changed(at, n int) []int {
	l := other()
	l[at] = n
	return l
}

func TestP12_8BentNeither(t *testing.T) {
	for axis := range 3 {
		for _, bent := range []int{-1, 2, 3, 256, 257, 1 << 32, 1<<32 + 1, low, low + 1, top} {
			checkClose(t, lost(3), all(3, 5, changed(7*axis+5, bent)...), lost(3))
		}
		for bent := range 2 {
			want := followed(lost(3))
			want.Axis[axis].Bent = bent == 1
			checkClose(t, lost(3), all(3, 5, changed(7*axis+5, bent)...), want)
		}
	}
}

// What is wrong of the last axis alone leaves the first ones as they are, too; so does what is wrong of the roll.
func TestP12_8NothingByHalves(t *testing.T) {
	for _, l := range [][]int{changed(5, 2), changed(12, 2), changed(19, 2), changed(21, 16), changed(22, 4096), changed(23, 4096), changed(23, 1)} {
		checkClose(t, lost(0), all(0, 5, l...), lost(0))
	}
}

// rolled is the other state with a roll of these numbers.
func rolled(set, miss, join int) []int {
	return append(other()[:21], set, miss, join)
}

func TestP12_8Sets(t *testing.T) {
	for set := range 16 {
		want := followed(lost(2))
		want.Roll = inOf(set)
		checkClose(t, lost(2), all(2, 5, rolled(set, 0, 0)...), want)
	}
	for _, set := range []int{-1, -2, -16, 16, 17, 31, 256, 256 + 15, 1 << 32, 1<<32 + 15, low, low + 15, top} {
		checkClose(t, lost(2), all(2, 5, rolled(set, 0, 0)...), lost(2))
	}
}

func TestP12_8Counts(t *testing.T) {
	for node, weight := range []int{512, 64, 8, 1} {
		for count := range 8 {
			want := lost(1)
			if count <= api.MaxMiss {
				want = followed(want)
				want.Roll = inOf(15)
				want.Roll.Miss[node] = count
			}
			checkClose(t, lost(1), all(1, 5, rolled(15, count*weight, 0)...), want)
			want = lost(1)
			if count < api.MaxJoin {
				want = followed(want)
				want.Roll = inOf(0)
				want.Roll.Join[node] = count
			}
			checkClose(t, lost(1), all(1, 5, rolled(0, 0, count*weight)...), want)
		}
	}
}

// Numbers beyond the bounds tell none, also those whose lowest bits would tell a good roll; and at 4095 the counts are no good ones.
func TestP12_8CountBounds(t *testing.T) {
	for _, n := range []int{-1, -512, -4096, 4095, 4096, 4097, 4096 + 512, 8192, 1 << 16, 1 << 32, 1<<32 + 1, low, low + 1, top} {
		checkClose(t, lost(0), all(0, 5, rolled(15, n, 0)...), lost(0))
		checkClose(t, lost(0), all(0, 5, rolled(0, 0, n)...), lost(0))
		checkClose(t, lost(0), all(0, 5, rolled(15, 0, n)...), lost(0))
		checkClose(t, lost(0), all(0, 5, rolled(0, n, 0)...), lost(0))
	}
	// The greatest numbers that a good roll has.
	want := followed(lost(0))
	want.Roll = inOf(15)
	want.Roll.Miss = [4]int{2, 2, 2, 2}
	checkClose(t, lost(0), all(0, 5, rolled(15, 1170, 0)...), want)
	want.Roll = inOf(0)
	want.Roll.Join = [4]int{2, 2, 2, 2}
	checkClose(t, lost(0), all(0, 5, rolled(0, 0, 1170)...), want)
}

func TestP12_8RollNotGood(t *testing.T) {
	for _, l := range [][3]int{
		{15, 0, 1}, {15, 0, 512}, {14, 512, 0}, {7, 1, 0}, {0, 8, 0}, {7, 3 * 512, 0}, {7, 0, 3}, {15, 1170 + 1, 0}, {0, 0, 1170 + 64},
	} {
		checkClose(t, lost(3), all(3, 5, rolled(l[0], l[1], l[2])...), lost(3))
	}
}

// Numbers that tell no state stand for their pair: what others tell is not asked then, nor what these two tell later.
func TestP12_8NoOtherPair(t *testing.T) {
	for _, none := range [][]int{changed(5, 2), changed(21, 16), changed(22, 4096), changed(23, -1), changed(23, 1)} {
		in := []api.Message{
			from(1, 5, none...), from(2, 5, none...), from(3, 5, other()...),
			from(1, 5, other()...), from(2, 5, other()...), from(3, 5, other()...),
		}
		checkClose(t, lost(0), in, lost(0))
		in[2] = from(3, 5, none...)
		checkClose(t, lost(0), in, lost(0))
	}
}

// The numbers of a computer that is lost have no say in what it takes: only the roll and the axes are the others', all else stays.
func TestP12_8AllElseStays(t *testing.T) {
	n := lost(2)
	n.Roll = api.Roll{Miss: [4]int{top, low, 9, -9}, Join: [4]int{-1, 8, 1 << 62, -3}}
	n.Verdict.Agree = []bool{true, false, true, false, true, false}
	got, beside := check(t, closing(), n, all(2, 5, other()...))
	if !sameNode(got, followed(n)) {
		t.Errorf("Close: %v; want %v", got, followed(n))
	}
	want := api.Report{Node: 2, Frame: 7, Used: [3]int{17, 27, 37}, Place: [3]int{-1, 7, 14}, Digest: 400, Strong: true, In: [4]bool{true, true, false, true}}
	if beside.report != want {
		t.Errorf("Close: %v; want %v", beside.report, want)
	}
}

// Of a computer that keeps its state the report is its own, weak or not.
func TestP12_8Report(t *testing.T) {
	n := lost(0)
	n.Verdict.Strong, n.Frame = false, -3
	_, beside := check(t, closing(), n, nil)
	want := api.Report{Node: 0, Frame: -3, Used: [3]int{17, 27, 37}, Place: [3]int{10, 20, 30}, Digest: 400, In: [4]bool{true, false, true, true}}
	if beside.report != want {
		t.Errorf("Close: %v; want %v", beside.report, want)
	}
}
