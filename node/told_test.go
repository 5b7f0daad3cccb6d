package node

import (
	"encoding/binary"
	"hash/crc32"
	"math"
	"math/big"
	"math/rand"
	"reflect"
	"slices"
	"testing"

	"fourwatch/api"
	"fourwatch/filter"
	"fourwatch/member"
	"fourwatch/vote"
)

const (
	top = math.MaxInt
	low = math.MinInt
)

// strangeIds are no nodes; some of them are ones in their lowest bits.
var strangeIds = []int{low, -256, -4, -1, 4, 5, 7, 256, 1 << 32, 1<<32 + 1, top}

// answer is what a phase puts out beside the computer: a message, or a report.
type answer struct {
	message api.Message
	report  api.Report
}

// phase is a call that hears something, and what the chapter tells of it.
type phase struct {
	name       string
	kind, size int
	do         func(api.Node, []api.Message) (api.Node, answer)
	told       func(api.Node, []api.Message) (api.Node, answer)
}

type call func(api.Node, []api.Message) (api.Node, api.Message)

func answering(c call) func(api.Node, []api.Message) (api.Node, answer) {
	return func(n api.Node, in []api.Message) (api.Node, answer) {
		after, m := c(n, in)
		return after, answer{message: m}
	}
}

func reporting(c func(api.Node, []api.Message) (api.Node, api.Report)) func(api.Node, []api.Message) (api.Node, answer) {
	return func(n api.Node, in []api.Message) (api.Node, answer) {
		after, r := c(n, in)
		return after, answer{report: r}
	}
}

func relay() phase { return phase{"Relay", 1, 3, answering(Relay), answering(toldRelay)} }

func decide() phase { return phase{"Decide", 2, 12, answering(Decide), answering(toldDecide)} }

func pass() phase { return phase{"Pass", 3, 1, answering(Pass), answering(toldPass)} }

func judge() phase { return phase{"Judge", 2, 4, answering(Judge), answering(toldJudge)} }

func closing() phase { return phase{"Close", 5, 24, reporting(Close), reporting(toldClose)} }

func phases() []phase { return []phase{relay(), decide(), pass(), judge(), closing()} }

// toldHear is the first message of one node that fits.
func toldHear(n api.Node, in []api.Message, kind, size, node int) ([]int, bool) {
	if node == n.Id {
		return nil, false
	}
	for _, m := range in {
		if m.From == node && m.Kind == kind && m.Frame == n.Frame && len(m.Vals) == size {
			return m.Vals, true
		}
	}
	return nil, false
}

// toldOn is what a node tells at a place, 0 where it tells nothing.
func toldOn(n api.Node, in []api.Message, size, node, place int) int {
	if l, is := toldHear(n, in, 2, size, node); is {
		return l[place]
	}
	return 0
}

// toldTwo is, for two nodes, the two others.
func toldTwo(a, b int) (int, int) {
	l := []int{}
	for node := range 4 {
		if node != a && node != b {
			l = append(l, node)
		}
	}
	return l[0], l[1]
}

// toldMost is what two of three are, else 0.
func toldMost(a, b, c int) int {
	if a == b || a == c {
		return a
	}
	if b == c {
		return b
	}
	return 0
}

// toldMiddle is P7.2 of at most four numbers, reckoned in numbers without an end.
func toldMiddle(l []int) int {
	if len(l) == 0 {
		return 0
	}
	s := slices.Clone(l)
	slices.Sort(s)
	if len(s) == 4 {
		s = s[1:3]
	}
	both := new(big.Int).Add(big.NewInt(int64(s[0])), big.NewInt(int64(s[len(s)-1])))
	return int(new(big.Int).Rsh(both, 1).Int64())
}

func toldNode(id int) bool { return id == 0 || id == 1 || id == 2 || id == 3 }

func says(n api.Node, kind int, vals ...int) api.Message {
	return api.Message{Kind: kind, From: n.Id, Frame: n.Frame, Vals: slices.Clone(vals)}
}

// toldSense is P12.2 as it is told.
func toldSense(n api.Node, frame int, read [3]int) (api.Node, api.Message) {
	if !toldNode(n.Id) {
		return n, api.Message{}
	}
	n.Frame = frame
	for node := range 4 {
		n.Direct[node], n.Heard[node] = [3]int{0, 0, 0}, 0
	}
	n.Direct[n.Id] = read
	return n, says(n, 1, read[0], read[1], read[2])
}

// toldRelay is P12.3 as it is told.
func toldRelay(n api.Node, in []api.Message) (api.Node, api.Message) {
	if !toldNode(n.Id) {
		return n, api.Message{}
	}
	vals := []int{}
	for node := range 4 {
		if l, is := toldHear(n, in, 1, 3, node); is {
			n.Direct[node] = [3]int{l[0], l[1], l[2]}
		}
		vals = append(vals, n.Direct[node][0], n.Direct[node][1], n.Direct[node][2])
	}
	return n, says(n, 2, vals...)
}

// toldDecide is P12.4 as it is told.
func toldDecide(n api.Node, in []api.Message) (api.Node, api.Message) {
	if !toldNode(n.Id) {
		return n, api.Message{}
	}
	n.Agreed[n.Id] = n.Direct[n.Id]
	for s := range 4 {
		for axis := 0; axis < 3 && s != n.Id; axis++ {
			a, b := toldTwo(n.Id, s)
			n.Agreed[s][axis] = toldMost(n.Direct[s][axis], toldOn(n, in, 12, a, 3*s+axis), toldOn(n, in, 12, b, 3*s+axis))
		}
	}
	for axis := range 3 {
		l := []int{}
		for node := range 4 {
			if n.Roll.In[node] {
				l = append(l, n.Agreed[node][axis])
			}
		}
		n.Used[axis] = toldMiddle(l)
		n.Axis[axis], _ = filter.Step(n.Axis[axis], n.Tuning, n.Used[axis])
	}
	n.Digest = toldDigest(toldNumbers(n))
	n.Heard[n.Id] = n.Digest
	return n, says(n, 3, n.Digest)
}

// toldNumbers is the first half of P12.5 as it is told.
func toldNumbers(n api.Node) []int {
	l := make([]int, 24)
	for axis, s := range n.Axis {
		at := 7 * axis
		l[at], l[at+1], l[at+2], l[at+3], l[at+4], l[at+6] = s.X, s.V, s.P00, s.P01, s.P11, s.Missed
		if s.Bent {
			l[at+5] = 1
		}
	}
	for node, weight := range []int{1, 2, 4, 8} {
		if n.Roll.In[node] {
			l[21] += weight
		}
	}
	for node, weight := range []int{512, 64, 8, 1} {
		l[22] += weight * n.Roll.Miss[node]
		l[23] += weight * n.Roll.Join[node]
	}
	return l
}

// toldDigest is the second half of P12.5, by the library's sum.
func toldDigest(l []int) int {
	b := []byte{}
	for _, n := range l {
		b = binary.BigEndian.AppendUint64(b, uint64(n))
	}
	return int(crc32.ChecksumIEEE(b))
}

// toldPass is P12.6 as it is told.
func toldPass(n api.Node, in []api.Message) (api.Node, api.Message) {
	if !toldNode(n.Id) {
		return n, api.Message{}
	}
	for node := range 4 {
		if l, is := toldHear(n, in, 3, 1, node); is {
			n.Heard[node] = l[0]
		}
	}
	return n, says(n, 2, n.Heard[0], n.Heard[1], n.Heard[2], n.Heard[3])
}

// toldJudge is P12.7 as it is told.
func toldJudge(n api.Node, in []api.Message) (api.Node, api.Message) {
	if !toldNode(n.Id) {
		return n, api.Message{}
	}
	votes := [4]int{}
	for s := range 4 {
		votes[s] = n.Heard[s]
		if s != n.Id {
			a, b := toldTwo(n.Id, s)
			votes[s] = toldMost(n.Heard[s], toldOn(n, in, 4, a, s), toldOn(n, in, 4, b, s))
		}
	}
	n.Verdict = vote.Vote(votes, n.Roll.In)
	roll, _, errno := member.Step(n.Roll, n.Verdict)
	if errno == 0 {
		n.Roll = roll
	}
	return n, says(n, 5, toldNumbers(n)...)
}

// toldClose is P12.8 as it is told.
func toldClose(n api.Node, in []api.Message) (api.Node, api.Report) {
	if !toldNode(n.Id) {
		return n, api.Report{}
	}
	if n.Verdict.Strong && n.Verdict.Value != n.Digest {
		for _, pair := range [][2]int{{0, 1}, {0, 2}, {0, 3}, {1, 2}, {1, 3}, {2, 3}} {
			first, isFirst := toldHear(n, in, 5, 24, pair[0])
			second, isSecond := toldHear(n, in, 5, 24, pair[1])
			if isFirst && isSecond && reflect.DeepEqual(first, second) {
				n = toldTake(n, first)
				break
			}
		}
	}
	r := api.Report{Node: n.Id, Frame: n.Frame, Used: n.Used, Digest: n.Digest, Strong: n.Verdict.Strong, In: n.Roll.In}
	r.Place = [3]int{n.Axis[0].X, n.Axis[1].X, n.Axis[2].X}
	return n, r
}

// toldTake is a computer that takes a state in numbers, or none.
func toldTake(n api.Node, l []int) api.Node {
	if l[21] < 0 || l[21] >= 16 || l[22] < 0 || l[22] >= 4096 || l[23] < 0 || l[23] >= 4096 {
		return n
	}
	after := n
	for axis := range 3 {
		p := l[7*axis : 7*axis+7]
		if p[5] != 0 && p[5] != 1 {
			return n
		}
		after.Axis[axis] = api.State{X: p[0], V: p[1], P00: p[2], P01: p[3], P11: p[4], Bent: p[5] != 0, Missed: p[6]}
	}
	for node, weight := range []int{512, 64, 8, 1} {
		after.Roll.In[node] = l[21]/(1<<node)%2 == 1
		after.Roll.Miss[node], after.Roll.Join[node] = l[22]/weight%8, l[23]/weight%8
	}
	if !member.Good(after.Roll) {
		return n
	}
	return after
}

// own memory, with room behind each list: what stands there must stay, too.

func roomyBools(l []bool) []bool {
	return append(slices.Clone(l), true, false, true, true)[:len(l)]
}

func roomyInts(l []int) []int {
	return append(slices.Clone(l), 71, 72, 73)[:len(l)]
}

func roomyNode(n api.Node) api.Node {
	n.Verdict.Agree = roomyBools(n.Verdict.Agree)
	return n
}

func roomyMessages(l []api.Message) []api.Message {
	fresh := []api.Message{}
	for _, m := range l {
		m.Vals = roomyInts(m.Vals)
		fresh = append(fresh, m)
	}
	behind := api.Message{Kind: 9, From: 9, Frame: 9, Vals: []int{9}}
	return append(fresh, behind, behind)[:len(l)]
}

// deepNode is a computer of its own, with what stands in the spare room.
func deepNode(n api.Node) api.Node {
	n.Verdict.Agree = append([]bool{}, n.Verdict.Agree[:cap(n.Verdict.Agree)]...)
	return n
}

// deepMessages are messages of their own, with what stands in the spare room, theirs and the list's.
func deepMessages(l []api.Message) []api.Message {
	fresh := []api.Message{}
	for _, m := range l[:cap(l)] {
		m.Vals = append([]int{}, m.Vals[:cap(m.Vals)]...)
		fresh = append(fresh, m)
	}
	return fresh
}

func spoilBools(l []bool) {
	for i, is := range l[:cap(l)] {
		l[:cap(l)][i] = !is
	}
}

func spoilInts(l []int) {
	for i, n := range l[:cap(l)] {
		l[:cap(l)][i] = ^n
	}
}

func spoilMessages(l []api.Message) {
	for i, m := range l[:cap(l)] {
		spoilInts(m.Vals)
		l[:cap(l)][i] = api.Message{Kind: 99}
	}
}

// sameNode holds a list without elements alike to one that is nil.
func sameNode(a, b api.Node) bool {
	agrees := slices.Equal(a.Verdict.Agree, b.Verdict.Agree)
	a.Verdict.Agree, b.Verdict.Agree = nil, nil
	return agrees && reflect.DeepEqual(a, b)
}

func sameMessage(a, b api.Message) bool {
	return a.Kind == b.Kind && a.From == b.From && a.Frame == b.Frame && slices.Equal(a.Vals, b.Vals)
}

func same(a api.Node, b answer, wantA api.Node, wantB answer) bool {
	return sameNode(a, wantA) && sameMessage(b.message, wantB.message) && b.report == wantB.report
}

// check holds a phase against what the chapter tells, and what is handed in and answered against one another.
// It is the computer and the answer, for the next phase.
func check(t *testing.T, p phase, n api.Node, in []api.Message) (api.Node, answer) {
	t.Helper()
	want, wantBeside := p.told(roomyNode(n), roomyMessages(in))
	node, list := roomyNode(n), roomyMessages(in)
	nodeWas, listWas := deepNode(node), deepMessages(list)
	got, beside := p.do(node, list)
	again, besideAgain := p.do(node, list)
	if !same(got, beside, want, wantBeside) {
		t.Errorf("%s(%v, %v):\n%v, %v; want\n%v, %v", p.name, n, in, got, beside, want, wantBeside)
	}
	if !reflect.DeepEqual(deepNode(node), nodeWas) || !reflect.DeepEqual(deepMessages(list), listWas) {
		t.Errorf("%s(%v, %v): what was handed in is changed", p.name, n, in)
	}
	spoilBools(node.Verdict.Agree)
	spoilMessages(list)
	if !same(got, beside, want, wantBeside) {
		t.Errorf("%s(%v, %v): the answer shares memory with what was handed in", p.name, n, in)
	}
	spoilBools(again.Verdict.Agree)
	spoilInts(besideAgain.message.Vals)
	if !same(got, beside, want, wantBeside) {
		t.Errorf("%s(%v, %v): two answers share memory", p.name, n, in)
	}
	return got, beside
}

// checkSense is check of Sense.
func checkSense(t *testing.T, n api.Node, frame int, read [3]int) (api.Node, api.Message) {
	t.Helper()
	sense := func(c func(api.Node, int, [3]int) (api.Node, api.Message)) func(api.Node, []api.Message) (api.Node, answer) {
		return answering(func(n api.Node, _ []api.Message) (api.Node, api.Message) { return c(n, frame, read) })
	}
	after, beside := check(t, phase{"Sense", 0, 0, sense(Sense), sense(toldSense)}, n, nil)
	return after, beside.message
}

// full is a computer with a number of its own in each place, on its way through frame 7.
func full(id int) api.Node {
	n := api.Node{Id: id, Frame: 7, Tuning: api.Tuning{Dt: api.One, Q: 2, R: api.One, Gate: 9 * api.One}}
	for axis := range n.Axis {
		at := 10 * (axis + 1)
		n.Axis[axis] = api.State{X: at, V: at + 1, P00: at + 2, P01: at + 3, P11: at + 4, Bent: axis == 1, Missed: at + 6}
		n.Used[axis] = at + 7
	}
	n.Roll = api.Roll{In: [4]bool{true, false, true, true}, Miss: [4]int{1, 0, 2, 0}, Join: [4]int{0, 2, 0, 0}}
	for node := range 4 {
		n.Heard[node] = 300 + node
		for axis := range 3 {
			n.Direct[node][axis], n.Agreed[node][axis] = 100+10*node+axis, 200+10*node+axis
		}
	}
	n.Digest = 400
	n.Verdict = api.Verdict{Value: 401, Strong: true, Agree: []bool{true, false, false, true}}
	return n
}

// from is a message of frame 7.
func from(node, kind int, vals ...int) api.Message {
	return api.Message{Kind: kind, From: node, Frame: 7, Vals: vals}
}

// times is a number so many times.
func times(n, many int) []int { return slices.Repeat([]int{n}, many) }

// anyNumber is mostly one of a few, so that many are alike.
func anyNumber(r *rand.Rand, few int) int {
	if r.Intn(20) == 0 {
		return []int{low, low + 1, -1, -2, 1 << 32, 3 << 32, -1 << 33, top - 1, top}[r.Intn(9)]
	}
	return r.Intn(few)
}

func anyNumbers(r *rand.Rand, few, many int) []int {
	l := make([]int, many)
	for i := range l {
		l[i] = anyNumber(r, few)
	}
	return l
}

// anyRoll is good at most times.
func anyRoll(r *rand.Rand) api.Roll {
	roll := api.Roll{}
	for node := range 4 {
		roll.In[node] = r.Intn(3) > 0
		if roll.In[node] {
			roll.Miss[node] = r.Intn(3)
		} else {
			roll.Join[node] = r.Intn(3)
		}
	}
	if r.Intn(6) == 0 {
		roll.Miss[r.Intn(4)] = anyNumber(r, 4)
		roll.Join[r.Intn(4)] = anyNumber(r, 4)
	}
	return roll
}

// anyNode is a computer of few numbers.
func anyNode(r *rand.Rand) api.Node {
	n := api.Node{Id: r.Intn(4), Frame: anyNumber(r, 3), Roll: anyRoll(r), Digest: anyNumber(r, 3)}
	if r.Intn(20) == 0 {
		n.Id = strangeIds[r.Intn(len(strangeIds))]
	}
	n.Tuning = api.Tuning{Dt: r.Intn(2) * api.One, Q: r.Intn(3) * api.One, R: r.Intn(3) * api.One, Gate: anyNumber(r, 30) * (api.One / 2)}
	for axis := range 3 {
		l := anyNumbers(r, 4, 6)
		n.Axis[axis] = api.State{X: l[0], V: l[1], P00: l[2] * api.One, P01: l[3], P11: l[4], Bent: r.Intn(4) == 0, Missed: l[5]}
		n.Used[axis] = anyNumber(r, 3)
	}
	for node := range 4 {
		n.Direct[node] = [3]int(anyNumbers(r, 3, 3))
		n.Agreed[node] = [3]int(anyNumbers(r, 3, 3))
		n.Heard[node] = anyNumber(r, 3)
	}
	n.Verdict = api.Verdict{Value: anyNumber(r, 3), Strong: r.Intn(3) > 0}
	for range []int{0, 4, 4, 4, 4, 7, 1}[r.Intn(7)] {
		n.Verdict.Agree = append(n.Verdict.Agree, r.Intn(2) == 0)
	}
	return n
}

// anyMessages are mostly such as the phase hears.
func anyMessages(r *rand.Rand, n api.Node, p phase) []api.Message {
	states := [][]int{anyState(r), anyState(r)}
	l := []api.Message{}
	for range r.Intn(9) {
		m := api.Message{Kind: p.kind, From: r.Intn(4), Frame: n.Frame, Vals: anyNumbers(r, 3, p.size)}
		if p.size == 24 {
			m.Vals = slices.Clone(states[r.Intn(2)])
		}
		switch r.Intn(12) {
		case 0:
			m.Kind = anyNumber(r, 7)
		case 1:
			m.From = anyNumber(r, 6)
		case 2:
			m.Frame = anyNumber(r, 4)
		case 3:
			m.Vals = anyNumbers(r, 3, []int{0, p.size - 1, p.size + 1, 1, 3, 4, 12, 24, 25}[r.Intn(9)])
		}
		l = append(l, m)
	}
	return l
}

// anyState is 24 numbers that tell a state, at most times.
func anyState(r *rand.Rand) []int {
	n := anyNode(r)
	l := toldNumbers(n)
	if r.Intn(3) == 0 {
		l[r.Intn(24)] = anyNumber(r, 20)
	}
	return l
}
