package node

import (
	"math/rand"
	"slices"
	"testing"

	"fourwatch/api"
)

func TestP12_1Begin(t *testing.T) {
	axis := api.State{P00: 1 << 32, P11: 1 << 32}
	for id := range 4 {
		for _, tuning := range []api.Tuning{{}, {Dt: 1, Q: 2, R: 3, Gate: 4}, {Dt: low, Q: top, R: -1, Gate: low}} {
			want := api.Node{Id: id, Tuning: tuning, Axis: [3]api.State{axis, axis, axis}}
			want.Roll.In = [4]bool{true, true, true, true}
			if got, errno := Begin(id, tuning); errno != api.OK || !sameNode(got, want) {
				t.Errorf("Begin(%d, %v): %v, %d; want %v", id, tuning, got, errno, want)
			}
		}
	}
}

func TestP12_1BeginNoNode(t *testing.T) {
	for _, id := range strangeIds {
		if got, errno := Begin(id, api.Tuning{Dt: 1, Q: 2, R: 3, Gate: 4}); errno != api.ErrRange || !sameNode(got, api.Node{}) {
			t.Errorf("Begin(%d): %v, %d; want ErrRange alone", id, got, errno)
		}
	}
}

// A computer whose Id is no node stays as it is, whatever it hears, and tells nothing; its Agree is its own all the same.
func TestP12_1StrangeId(t *testing.T) {
	for _, id := range strangeIds {
		for _, agree := range [][]bool{nil, {}, {true}, {true, false, true, false}, {true, true, true, true, true, true}} {
			n := full(id)
			n.Verdict.Agree = agree
			for _, p := range phases() {
				in := []api.Message{}
				for _, node := range []int{0, 1, 2, 3, id} {
					in = append(in, from(node, p.kind, toldNumbers(full(0))[:p.size]...))
				}
				if got, beside := check(t, p, n, in); !same(got, beside, n, answer{}) {
					t.Errorf("%s of computer %d: %v, %v", p.name, id, got, beside)
				}
			}
			if got, m := checkSense(t, n, 8, [3]int{1, 2, 3}); !same(got, answer{message: m}, n, answer{}) {
				t.Errorf("Sense of computer %d: %v, %v", id, got, m)
			}
		}
	}
}

func TestP12_2Sense(t *testing.T) {
	for id := range 4 {
		for _, frame := range []int{0, 1, 7, 8, 1 << 30, -1, low, top} {
			for _, read := range [][3]int{{1, 2, 3}, {0, 0, 0}, {-5, low, top}} {
				want := full(id)
				want.Frame, want.Direct, want.Heard = frame, [4][3]int{}, [4]int{}
				want.Direct[id] = read
				got, m := checkSense(t, full(id), frame, read)
				tells := api.Message{Kind: api.KindReading, From: id, Frame: frame, Vals: read[:]}
				if !sameNode(got, want) || !sameMessage(m, tells) {
					t.Errorf("Sense of %d at %d, %v: %v, %v; want %v, %v", id, frame, read, got, m, want, tells)
				}
			}
		}
	}
}

// checkHearing has a node tell the right thing behind messages that are not to be heard, and ahead of another right thing.
// What stands by is heard in all cases; the right thing must make a difference, the wrong ones none.
func checkHearing(t *testing.T, p phase, n api.Node, node int, standBy []api.Message, right, later []int) {
	t.Helper()
	hear := func(l ...api.Message) (api.Node, answer) { return check(t, p, n, slices.Concat(standBy, l)) }
	good := from(node, p.kind, right...)
	base, baseBeside := hear()
	want, wantBeside := hear(good)
	if same(want, wantBeside, base, baseBeside) {
		t.Errorf("%s: computer %d doesn't hear node %d", p.name, n.Id, node)
	}
	wrong := []api.Message{}
	for _, m := range unheard(n.Id, p.kind, node, right) {
		if got, beside := hear(m); !same(got, beside, base, baseBeside) {
			t.Errorf("%s: computer %d hears %v", p.name, n.Id, m)
		}
		wrong = append(wrong, m)
	}
	for _, l := range [][]api.Message{
		slices.Concat(wrong, []api.Message{good}),
		slices.Concat([]api.Message{good}, wrong),
		slices.Concat(wrong, []api.Message{good, from(node, p.kind, later...)}),
		{good, from(node, p.kind, later...), from(node, p.kind, later...)},
	} {
		if got, beside := hear(l...); !same(got, beside, want, wantBeside) {
			t.Errorf("%s: computer %d hears of node %d not the first that fits of %v", p.name, n.Id, node, l)
		}
	}
	if got, beside := hear(from(node, p.kind, later...), good); same(got, beside, want, wantBeside) {
		t.Errorf("%s: computer %d hears of node %d not the first one", p.name, n.Id, node)
	}
}

// unheard are messages that fit in all but one thing.
func unheard(id, kind, node int, vals []int) []api.Message {
	l := []api.Message{from(id, kind, vals...), from(node, kind), from(node, kind, vals[1:]...), from(node, kind, append(slices.Clone(vals), vals[0])...)}
	l = append(l, from(node, kind, slices.Repeat(vals, 2)...), api.Message{Kind: kind, From: node, Frame: 7})
	for other := range 8 {
		if other != kind {
			l = append(l, from(node, other, vals...))
		}
	}
	for _, other := range []int{-kind, kind + 256, kind + 1<<32, low, top} {
		l = append(l, from(node, other, vals...))
	}
	for _, frame := range []int{0, 6, 8, -7, 7 + 256, 7 + 1<<32, low, top} {
		l = append(l, api.Message{Kind: kind, From: node, Frame: frame, Vals: vals})
	}
	for _, other := range []int{-1, 4, node - 4, node + 4, node + 256, node + 1<<32, low, top} {
		l = append(l, from(other, kind, vals...))
	}
	return l
}

// eachOther goes through all pairs of a computer and another node.
func eachOther(do func(id, node int)) {
	for id := range 4 {
		for node := range 4 {
			if node != id {
				do(id, node)
			}
		}
	}
}

func TestP12_3Hear(t *testing.T) {
	eachOther(func(id, node int) { checkHearing(t, relay(), full(id), node, nil, []int{1, 2, 3}, []int{4, 5, 6}) })
}

func TestP12_4Hear(t *testing.T) {
	eachOther(func(id, node int) {
		n := full(id)
		n.Direct = [4][3]int{{5, 5, 5}, {5, 5, 5}, {5, 5, 5}, {5, 5, 5}}
		checkHearing(t, decide(), n, node, nil, times(5, 12), times(6, 12))
	})
}

func TestP12_6Hear(t *testing.T) {
	eachOther(func(id, node int) { checkHearing(t, pass(), full(id), node, nil, []int{5}, []int{6}) })
}

func TestP12_7Hear(t *testing.T) {
	eachOther(func(id, node int) {
		n := full(id)
		n.Heard, n.Roll = [4]int{5, 5, 5, 5}, api.Roll{In: [4]bool{true, true, true, true}}
		checkHearing(t, judge(), n, node, nil, times(5, 4), times(6, 4))
	})
}

func TestP12_8Hear(t *testing.T) {
	right, later := toldNumbers(full(0)), toldNumbers(full(0))
	right[0], later[0] = 77, 78
	eachOther(func(id, node int) {
		other, _ := toldTwo(id, node)
		checkHearing(t, closing(), full(id), node, []api.Message{from(other, 5, right...)}, right, later)
	})
}

func TestP12_3Relay(t *testing.T) {
	n := full(1)
	got, beside := check(t, relay(), n, []api.Message{from(3, 1, -1, low, top), from(0, 1, 4, 5, 6), from(2, 1, 7, 8, 9)})
	want := full(1)
	want.Direct = [4][3]int{{4, 5, 6}, {110, 111, 112}, {7, 8, 9}, {-1, low, top}}
	tells := api.Message{Kind: api.KindRelay, From: 1, Frame: 7, Vals: []int{4, 5, 6, 110, 111, 112, 7, 8, 9, -1, low, top}}
	if !sameNode(got, want) || !sameMessage(beside.message, tells) {
		t.Errorf("Relay: %v, %v; want %v, %v", got, beside.message, want, tells)
	}
}

// A node of which nothing is heard keeps its Direct, which need not be noughts.
func TestP12_3NothingHeard(t *testing.T) {
	for id := range 4 {
		all := []int{100, 101, 102, 110, 111, 112, 120, 121, 122, 130, 131, 132}
		got, beside := check(t, relay(), full(id), nil)
		if !sameNode(got, full(id)) || !slices.Equal(beside.message.Vals, all) {
			t.Errorf("Relay of %d, nothing heard: %v, %v", id, got, beside.message)
		}
		for node := range 4 {
			want := full(id)
			if node != id {
				want.Direct[node] = [3]int{1, 2, 3}
			}
			if got, _ := check(t, relay(), full(id), []api.Message{from(node, 1, 1, 2, 3)}); !sameNode(got, want) {
				t.Errorf("Relay of %d, node %d heard: %v; want %v", id, node, got.Direct, want.Direct)
			}
		}
	}
}

// plain is a computer at first in frame 7, with a Direct.
func plain(id int, direct [4][3]int) api.Node {
	n, _ := Begin(id, api.Tuning{Dt: api.One, Q: api.One, R: api.One, Gate: 100 * api.One})
	n.Frame, n.Direct = 7, direct
	return n
}

func TestP12_4Agreed(t *testing.T) {
	n := plain(1, [4][3]int{{5, 5, 7}, {1, 2, 3}, {0, 4, 4}, {9, 9, 0}})
	in := []api.Message{
		from(0, 2, 50, 51, 52, 6, 6, 6, 4, 4, 0, 9, 8, 9),
		from(2, 2, 5, 6, 8, 6, 6, 6, 60, 61, 62, 8, 8, 9),
		from(3, 2, 6, 5, 9, 6, 6, 6, 4, 0, 4, 70, 71, 72),
	}
	got, beside := check(t, decide(), n, in)
	want := [4][3]int{{5, 5, 0}, {1, 2, 3}, {4, 4, 4}, {9, 8, 9}}
	if got.Agreed != want || got.Direct != n.Direct {
		t.Errorf("Decide: Agreed %v, Direct %v; want %v, %v", got.Agreed, got.Direct, want, n.Direct)
	}
	// 1, 4, 5, 9 and 2, 4, 5, 8 and 0, 3, 4, 9: the two in the middle, half of them rounded down.
	if got.Used != [3]int{4, 4, 3} {
		t.Errorf("Decide: Used %v", got.Used)
	}
	if got.Heard != [4]int{0, got.Digest, 0, 0} || got.Digest != toldDigest(toldNumbers(got)) {
		t.Errorf("Decide: Heard %v, Digest %d", got.Heard, got.Digest)
	}
	tells := api.Message{Kind: api.KindVote, From: 1, Frame: 7, Vals: []int{got.Digest}}
	if !sameMessage(beside.message, tells) {
		t.Errorf("Decide tells %v; want %v", beside.message, tells)
	}
}

// Each computer, of each other node, with every choice of three things told.
func TestP12_4EachTrio(t *testing.T) {
	numbers := []int{0, 5, -6}
	eachOther(func(id, s int) {
		a, b := toldTwo(id, s)
		for i := range 27 {
			direct, first, second := numbers[i%3], numbers[i/3%3], numbers[i/9]
			n := plain(id, [4][3]int{{1, 1, 1}, {1, 1, 1}, {1, 1, 1}, {1, 1, 1}})
			n.Direct[s] = [3]int{direct, direct, direct}
			l, m := times(1, 12), times(1, 12)
			copy(l[3*s:], times(first, 3))
			copy(m[3*s:], times(second, 3))
			got, _ := check(t, decide(), n, []api.Message{from(b, 2, m...), from(a, 2, l...)})
			want := toldMost(direct, first, second)
			if got.Agreed[s] != [3]int{want, want, want} {
				t.Errorf("computer %d of node %d: %d of %d, %d, %d", id, s, got.Agreed[s], direct, first, second)
			}
		}
	})
}

// A node that tells nothing tells 0 of each.
func TestP12_4OneTellsNothing(t *testing.T) {
	n := plain(0, [4][3]int{{1, 2, 3}, {7, 7, 0}, {7, 7, 0}, {7, 5, 0}})
	for _, c := range []struct {
		in   []api.Message
		want [4][3]int
	}{
		{nil, [4][3]int{{1, 2, 3}, {}, {}, {}}},
		{[]api.Message{from(1, 2, times(7, 12)...)}, [4][3]int{{1, 2, 3}, {}, {7, 7, 0}, {7, 0, 0}}},
		{[]api.Message{from(3, 2, times(7, 12)...)}, [4][3]int{{1, 2, 3}, {7, 7, 0}, {7, 7, 0}, {}}},
		{[]api.Message{from(1, 2, times(7, 12)...), from(2, 2, times(7, 12)...)}, [4][3]int{{1, 2, 3}, {7, 7, 0}, {7, 7, 0}, {7, 7, 7}}},
		{[]api.Message{from(1, 2, times(0, 12)...)}, [4][3]int{{1, 2, 3}, {}, {}, {}}},
	} {
		if got, _ := check(t, decide(), n, c.in); got.Agreed != c.want {
			t.Errorf("Decide(%v): %v; want %v", c.in, got.Agreed, c.want)
		}
	}
}

// all is what three others tell, where each heard the same of each node.
func all(id int, kind int, vals ...int) []api.Message {
	l := []api.Message{}
	for node := range 4 {
		if node != id {
			l = append(l, from(node, kind, vals...))
		}
	}
	return l
}

// inOf is a roll with those in whose bits are set.
func inOf(set int) api.Roll {
	return api.Roll{In: [4]bool{set&1 != 0, set&2 != 0, set&4 != 0, set&8 != 0}}
}

func TestP12_4UsedOfThoseIn(t *testing.T) {
	direct := [4][3]int{{10, 1, -3}, {20, 2, -8}, {40, 8, 1}, {70, 64, 0}}
	want := [16][3]int{
		{0, 0, 0}, {10, 1, -3}, {20, 2, -8}, {15, 1, -6},
		{40, 8, 1}, {25, 4, -1}, {30, 5, -4}, {25, 4, -4},
		{70, 64, 0}, {40, 32, -2}, {45, 33, -4}, {40, 32, -4},
		{55, 36, 0}, {40, 32, -1}, {45, 33, -4}, {30, 5, -2},
	}
	for set := range 16 {
		for id := range 4 {
			n := plain(id, direct)
			n.Roll, n.Used = inOf(set), [3]int{-9, -9, -9}
			got, _ := check(t, decide(), n, all(id, 2, 10, 1, -3, 20, 2, -8, 40, 8, 1, 70, 64, 0))
			if got.Agreed != direct || got.Used != want[set] {
				t.Errorf("computer %d, in %v: Agreed %v, Used %v; want %v", id, n.Roll.In, got.Agreed, got.Used, want[set])
			}
		}
	}
}

// The middle is exact where the sum of two is beyond the ends.
func TestP12_4UsedAtTheEnds(t *testing.T) {
	n := plain(2, [4][3]int{{top, low, top}, {top, low, low}, {top, low, top}, {top - 1, low + 2, low}})
	l := []int{top, low, top, top, low, low, top, low, top, top - 1, low + 2, low}
	if got, _ := check(t, decide(), n, all(2, 2, l...)); got.Used != [3]int{top, low, -1} {
		t.Errorf("Decide: Used %v", got.Used)
	}
	n.Roll.In = [4]bool{false, false, true, true}
	if got, _ := check(t, decide(), n, all(2, 2, l...)); got.Used != [3]int{top - 1, low + 1, -1} {
		t.Errorf("Decide of two: Used %v", got.Used)
	}
}

// The numbers are reckoned by hand: P00 is 1 + 1 behind Predict, w is 2 + 2, k is a half, l is 1 / 4.
func TestP12_4AxesGoOn(t *testing.T) {
	const one = api.One
	n := plain(3, [4][3]int{{8 * one, 0, 50 * one}, {8 * one, 0, 50 * one}, {8 * one, 0, 50 * one}, {8 * one, 0, 50 * one}})
	n.Tuning = api.Tuning{Dt: one, Q: 3 * one, R: 2 * one, Gate: 16 * one}
	n.Axis[2].Bent, n.Axis[2].Missed = true, 4
	got, _ := check(t, decide(), n, all(3, 2, slices.Repeat([]int{8 * one, 0, 50 * one}, 4)...))
	taken := api.State{X: 4 * one, V: 2 * one, P00: one, P01: one / 2, P11: 4*one - one/4}
	still := taken
	still.X, still.V = 0, 0
	want := [3]api.State{taken, still, {P00: 2 * one, P01: one, P11: 4 * one, Bent: true, Missed: 5}}
	if got.Axis != want || got.Used != [3]int{8 * one, 0, 50 * one} || got.Roll != n.Roll {
		t.Errorf("Decide: %v, %v; want %v", got.Axis, got.Used, want)
	}
}

func TestP12_6Pass(t *testing.T) {
	got, beside := check(t, pass(), full(2), []api.Message{from(3, 3, top), from(1, 3, -5), from(0, 3, 0)})
	want := full(2)
	want.Heard = [4]int{0, -5, 302, top}
	tells := api.Message{Kind: api.KindRelay, From: 2, Frame: 7, Vals: []int{0, -5, 302, top}}
	if !sameNode(got, want) || !sameMessage(beside.message, tells) {
		t.Errorf("Pass: %v, %v; want %v, %v", got, beside.message, want, tells)
	}
}

func TestP12_6NothingHeard(t *testing.T) {
	for id := range 4 {
		got, beside := check(t, pass(), full(id), nil)
		if !sameNode(got, full(id)) || !slices.Equal(beside.message.Vals, []int{300, 301, 302, 303}) {
			t.Errorf("Pass of %d, nothing heard: %v, %v", id, got, beside.message)
		}
		for node := range 4 {
			want := full(id)
			if node != id {
				want.Heard[node] = 1
			}
			if got, _ := check(t, pass(), full(id), []api.Message{from(node, 3, 1)}); !sameNode(got, want) {
				t.Errorf("Pass of %d, node %d heard: %v; want %v", id, node, got.Heard, want.Heard)
			}
		}
	}
}

// judged is a computer ahead of Judge, with all in.
func judged(id int, heard [4]int) api.Node {
	n := full(id)
	n.Heard, n.Roll = heard, inOf(15)
	return n
}

func verdict(value int, strong bool, agree ...bool) api.Verdict {
	return api.Verdict{Value: value, Strong: strong, Agree: agree}
}

func checkVerdict(t *testing.T, got, want api.Verdict) {
	t.Helper()
	if got.Value != want.Value || got.Strong != want.Strong || !slices.Equal(got.Agree, want.Agree) {
		t.Errorf("verdict %v; want %v", got, want)
	}
}

// Node 3 told each another digest: no two agree, and 0 is taken for said by it.
func TestP12_7Judge(t *testing.T) {
	n := judged(1, [4]int{9, 9, 9, 1})
	got, beside := check(t, judge(), n, []api.Message{from(0, 2, 9, 9, 9, 2), from(2, 2, 9, 9, 9, 3)})
	checkVerdict(t, got.Verdict, verdict(9, true, true, true, true, false))
	want := n
	want.Roll.Miss[3], want.Verdict = 1, got.Verdict
	if !sameNode(got, want) {
		t.Errorf("Judge: %v; want %v", got, want)
	}
	state := []int{10, 11, 12, 13, 14, 0, 16, 20, 21, 22, 23, 24, 1, 26, 30, 31, 32, 33, 34, 0, 36, 15, 1, 0}
	tells := api.Message{Kind: api.KindState, From: 1, Frame: 7, Vals: state}
	if !sameMessage(beside.message, tells) {
		t.Errorf("Judge tells %v; want %v", beside.message, tells)
	}
}

// Each computer, of each other node, with every choice of three things told.
func TestP12_7EachTrio(t *testing.T) {
	numbers := []int{0, 5, -6}
	eachOther(func(id, s int) {
		a, b := toldTwo(id, s)
		for i := range 27 {
			n := judged(id, [4]int{5, 5, 5, 5})
			n.Heard[s] = numbers[i%3]
			l, m := times(5, 4), times(5, 4)
			l[s], m[s] = numbers[i/3%3], numbers[i/9]
			got, _ := check(t, judge(), n, []api.Message{from(b, 2, m...), from(a, 2, l...)})
			want := verdict(5, true, true, true, true, true)
			want.Agree[s] = toldMost(n.Heard[s], l[s], m[s]) == 5
			checkVerdict(t, got.Verdict, want)
		}
	})
}

// Its own vote is what it has from itself, whatever the others tell of it.
func TestP12_7OwnVote(t *testing.T) {
	for id := range 4 {
		n := judged(id, [4]int{5, 5, 5, 5})
		n.Heard[id] = 6
		got, _ := check(t, judge(), n, all(id, 2, 5, 5, 5, 5))
		want := verdict(5, true, true, true, true, true)
		want.Agree[id] = false
		checkVerdict(t, got.Verdict, want)
	}
}

// A node that tells nothing tells 0 of each.
func TestP12_7OneTellsNothing(t *testing.T) {
	n := judged(0, [4]int{5, 5, 5, 0})
	got, _ := check(t, judge(), n, []api.Message{from(1, 2, 5, 5, 5, 5)})
	checkVerdict(t, got.Verdict, verdict(5, false, true, false, true, false))
	got, _ = check(t, judge(), n, nil)
	checkVerdict(t, got.Verdict, verdict(0, true, false, true, true, true))
}

// Two of four are not strong: the roll stays, though three would be changed by it.
func TestP12_7Weak(t *testing.T) {
	n := judged(0, [4]int{5, 5, 6, 6})
	n.Roll.Miss = [4]int{1, 2, 1, 1}
	got, beside := check(t, judge(), n, all(0, 2, 5, 5, 6, 6))
	checkVerdict(t, got.Verdict, verdict(5, false, true, true, false, false))
	if got.Roll != n.Roll || beside.message.Vals[21] != 15 || beside.message.Vals[22] != 512+2*64+8+1 {
		t.Errorf("a weak verdict: %v, %v", got.Roll, beside.message)
	}
}

// What is told is the roll behind the vote, the vote being by the roll ahead of it.
func TestP12_7PutsOut(t *testing.T) {
	n := judged(3, [4]int{5, 6, 5, 5})
	n.Roll.Miss[1] = 1
	got, beside := check(t, judge(), n, all(3, 2, 5, 6, 5, 5))
	checkVerdict(t, got.Verdict, verdict(5, true, true, false, true, true))
	if got.Roll != inOf(13) || !slices.Equal(beside.message.Vals[21:], []int{13, 0, 0}) {
		t.Errorf("one is put out: %v, %v", got.Roll, beside.message)
	}
	// Behind it, its vote counts no more, and its assents are counted.
	n.Roll, n.Heard = got.Roll, [4]int{6, 6, 6, 5}
	n.Roll.Join[1] = 1
	got, beside = check(t, judge(), n, all(3, 2, 6, 6, 6, 5))
	checkVerdict(t, got.Verdict, verdict(6, true, true, true, true, false))
	if !slices.Equal(beside.message.Vals[21:], []int{13, 1, 2 * 64}) {
		t.Errorf("one is out: %v, %v", got.Roll, beside.message)
	}
	n.Roll.Join[1] = 2
	if got, beside = check(t, judge(), n, all(3, 2, 6, 6, 6, 5)); !slices.Equal(beside.message.Vals[21:], []int{15, 1, 0}) {
		t.Errorf("one is let in: %v, %v", got.Roll, beside.message)
	}
}

func TestP12_7VotesOfThoseIn(t *testing.T) {
	n := judged(2, [4]int{5, 5, 6, 5})
	n.Roll = inOf(4)
	got, _ := check(t, judge(), n, all(2, 2, 5, 5, 6, 5))
	checkVerdict(t, got.Verdict, verdict(6, true, false, false, true, false))
	n.Roll = inOf(0)
	got, _ = check(t, judge(), n, all(2, 2, 5, 5, 6, 5))
	checkVerdict(t, got.Verdict, verdict(0, false, false, false, false, false))
	if got.Roll != inOf(0) {
		t.Errorf("none is in: %v", got.Roll)
	}
}

// A roll that member refuses stays, and is told as it is; the verdict is by its In all the same.
func TestP12_7RollRefused(t *testing.T) {
	for _, roll := range []api.Roll{
		{In: [4]bool{true, true, true, true}, Miss: [4]int{3, 1, 1, 1}},
		{In: [4]bool{true, true, true, true}, Join: [4]int{0, 0, 1, 0}},
		{In: [4]bool{true, true, true, true}, Miss: [4]int{0, 0, -1, 1}},
		{In: [4]bool{true, true, true, false}, Miss: [4]int{0, 0, 0, 1}},
		{In: [4]bool{true, true, true, false}, Join: [4]int{0, 0, 0, 3}},
		{In: [4]bool{true, true, true, true}, Miss: [4]int{top, low, top, low}, Join: [4]int{low, top, 1, -1}},
	} {
		n := judged(1, [4]int{5, 5, 5, 6})
		n.Roll = roll
		got, beside := check(t, judge(), n, all(1, 2, 5, 5, 5, 6))
		checkVerdict(t, got.Verdict, verdict(5, true, true, true, true, false))
		if got.Roll != roll || !slices.Equal(beside.message.Vals, toldNumbers(n)) {
			t.Errorf("a roll that is refused: %v, %v; want %v", got.Roll, beside.message, roll)
		}
	}
}

// What a computer is handed need not have come of the phases ahead.
func TestP12_AnyInputs(t *testing.T) {
	r := rand.New(rand.NewSource(12))
	for range 4000 {
		n := anyNode(r)
		checkSense(t, n, anyNumber(r, 4), [3]int(anyNumbers(r, 5, 3)))
		for _, p := range phases() {
			check(t, p, n, anyMessages(r, n, p))
		}
	}
}

// A list of very many messages is gone through whole: the one that fits may be the last.
func TestP12_3ManyMessages(t *testing.T) {
	in := slices.Repeat([]api.Message{from(0, 3, 1, 2, 3), from(1, 1, 1, 2), from(9, 1, 1, 2, 3)}, 1<<14)
	got, _ := Relay(full(2), append(in, from(3, 1, 1, 2, 3)))
	want := full(2)
	want.Direct[3] = [3]int{1, 2, 3}
	if !sameNode(got, want) {
		t.Errorf("Relay of many: %v", got.Direct)
	}
}
