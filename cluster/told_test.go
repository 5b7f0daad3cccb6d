package cluster

import (
	"bytes"
	"math"
	"math/rand"
	"reflect"
	"slices"
	"testing"

	"fourwatch/api"
	"fourwatch/node"
	"fourwatch/wire"
)

const (
	one = api.One
	top = math.MaxInt
	low = math.MinInt
)

var tuning = api.Tuning{Dt: one, Q: one, R: one, Gate: 16 * one}

// toldRefusal goes through P13.2's errors in their order.
func toldRefusal(c api.Cluster, in api.Input) api.Errno {
	switch {
	case !slices.Contains([]int{-1, 0, 1, 2, 3}, in.Bad), c.Frame < 0, c.Frame >= 1073741824:
		return api.ErrRange
	case len(in.Lies) >= 401:
		return api.ErrFull
	case [4]int{c.Nodes[0].Id, c.Nodes[1].Id, c.Nodes[2].Id, c.Nodes[3].Id} != [4]int{0, 1, 2, 3}:
		return api.ErrNone
	}
	return api.OK
}

// toldGets is what one gets of what was said in a phase, as P13.3 tells it.
func toldGets(said [4]api.Message, in api.Input, phase, to int) []api.Message {
	l := []api.Message{}
	for from := range 4 {
		if from != to && from != in.Bad {
			l = append(l, said[from])
		}
		for _, lie := range in.Lies {
			if from != in.Bad || to == in.Bad || lie.Phase != phase || lie.To != to {
				continue
			}
			m, errno := wire.Decode(lie.Bytes)
			if errno == api.OK && m.From == in.Bad {
				l = append(l, m)
			}
		}
	}
	return l
}

// toldFrame is P13.2 and P13.3 as they are told, phase by phase.
func toldFrame(c api.Cluster, in api.Input) (api.Cluster, []api.Report, api.Errno) {
	if errno := toldRefusal(c, in); errno != api.OK {
		return api.Cluster{}, nil, errno
	}
	good := slices.DeleteFunc([]int{0, 1, 2, 3}, func(id int) bool { return id == in.Bad })
	said := [5][4]api.Message{}
	for _, id := range good {
		c.Nodes[id], said[0][id] = node.Sense(c.Nodes[id], c.Frame, in.Read[id])
	}
	for _, id := range good {
		c.Nodes[id], said[1][id] = node.Relay(c.Nodes[id], toldGets(said[0], in, 0, id))
	}
	for _, id := range good {
		c.Nodes[id], said[2][id] = node.Decide(c.Nodes[id], toldGets(said[1], in, 1, id))
	}
	for _, id := range good {
		c.Nodes[id], said[3][id] = node.Pass(c.Nodes[id], toldGets(said[2], in, 2, id))
	}
	for _, id := range good {
		c.Nodes[id], said[4][id] = node.Judge(c.Nodes[id], toldGets(said[3], in, 3, id))
	}
	reports := make([]api.Report, len(good))
	for i, id := range good {
		c.Nodes[id], reports[i] = node.Close(c.Nodes[id], toldGets(said[4], in, 4, id))
	}
	return api.Cluster{Frame: c.Frame + 1, Nodes: c.Nodes}, reports, api.OK
}

// toldRun is P13.4 as it is told.
func toldRun(t api.Tuning, l []api.Input) (api.Cluster, []api.Report, api.Errno) {
	if len(l) >= 201 {
		return api.Cluster{}, nil, api.ErrFull
	}
	c, reports := Begin(t), []api.Report{}
	for _, in := range l {
		after, more, errno := toldFrame(c, in)
		if errno != api.OK {
			return api.Cluster{}, nil, errno
		}
		c = after
		reports = slices.Concat(reports, more)
	}
	return c, reports, api.OK
}

// sameNode holds a list without elements alike to one that is nil.
func sameNode(a, b api.Node) bool {
	agrees := slices.Equal(a.Verdict.Agree, b.Verdict.Agree)
	a.Verdict.Agree, b.Verdict.Agree = nil, nil
	return agrees && reflect.DeepEqual(a, b)
}

func sameCluster(a, b api.Cluster) bool {
	return a.Frame == b.Frame && slices.EqualFunc(a.Nodes[:], b.Nodes[:], sameNode)
}

func sameMessage(a, b api.Message) bool {
	return a.Kind == b.Kind && a.From == b.From && a.Frame == b.Frame && slices.Equal(a.Vals, b.Vals)
}

// Lists with room behind them, all of it filled: what stands there must stay, too.

func roomyCluster(c api.Cluster) api.Cluster {
	for id, n := range c.Nodes {
		c.Nodes[id].Verdict.Agree = append(append([]bool{}, n.Verdict.Agree...), true, false, true)[:len(n.Verdict.Agree)]
	}
	return c
}

func roomyInput(in api.Input) api.Input {
	lies := []api.Lie{}
	for _, lie := range in.Lies {
		lie.Bytes = append(append([]byte{}, lie.Bytes...), "spare"...)[:len(lie.Bytes)]
		lies = append(lies, lie)
	}
	in.Lies = append(lies, api.Lie{Phase: 7, To: 8, Bytes: []byte("room")}, api.Lie{Phase: 9})[:len(in.Lies)]
	return in
}

// deepCluster and deepInput are copies that share nothing, with what stands in the spare room.

func deepCluster(c api.Cluster) api.Cluster {
	for id, n := range c.Nodes {
		c.Nodes[id].Verdict.Agree = append([]bool{}, n.Verdict.Agree[:cap(n.Verdict.Agree)]...)
	}
	return c
}

func deepInput(in api.Input) api.Input {
	lies := []api.Lie{}
	for _, lie := range in.Lies[:cap(in.Lies)] {
		lie.Bytes = append([]byte{}, lie.Bytes[:cap(lie.Bytes)]...)
		lies = append(lies, lie)
	}
	in.Lies = lies
	return in
}

func sameInput(a, b api.Input) bool {
	sameLie := func(a, b api.Lie) bool {
		return a.Phase == b.Phase && a.To == b.To && bytes.Equal(a.Bytes, b.Bytes)
	}
	return a.Read == b.Read && a.Bad == b.Bad && slices.EqualFunc(a.Lies, b.Lies, sameLie)
}

func spoilBools(l []bool) {
	for i, is := range l[:cap(l)] {
		l[:cap(l)][i] = !is
	}
}

func spoilCluster(c api.Cluster) {
	for _, n := range c.Nodes {
		spoilBools(n.Verdict.Agree)
	}
}

func spoilInput(in api.Input) {
	for i, lie := range in.Lies[:cap(in.Lies)] {
		for k := range lie.Bytes[:cap(lie.Bytes)] {
			lie.Bytes[:cap(lie.Bytes)][k] ^= 0xA5
		}
		in.Lies[:cap(in.Lies)][i] = api.Lie{Phase: -99}
	}
}

func spoilReports(l []api.Report) {
	for i := range l[:cap(l)] {
		l[:cap(l)][i] = api.Report{Node: -99}
	}
}

// checkApart holds the lists of a cluster to share no memory with one another.
func checkApart(t *testing.T, c api.Cluster) {
	t.Helper()
	for id, n := range c.Nodes {
		was := deepCluster(c)
		spoilBools(n.Verdict.Agree)
		for other := range c.Nodes {
			if other != id && !slices.Equal(deepCluster(c).Nodes[other].Verdict.Agree, was.Nodes[other].Verdict.Agree) {
				t.Errorf("computers %d and %d of an answer share memory", id, other)
			}
		}
		spoilBools(n.Verdict.Agree)
	}
}

// checkFrame holds Frame against what the chapter tells, and what is handed in and answered against one another.
// It is the answer, for the next frame.
func checkFrame(t *testing.T, c api.Cluster, in api.Input) (api.Cluster, []api.Report) {
	t.Helper()
	want, wantReports, wantErrno := toldFrame(roomyCluster(c), roomyInput(in))
	four, input := roomyCluster(c), roomyInput(in)
	fourWas, inputWas := deepCluster(four), deepInput(input)
	got, reports, errno := Frame(four, input)
	again, reportsAgain, _ := Frame(four, input)
	right := func() bool { return sameCluster(got, want) && slices.Equal(reports, wantReports) }
	if errno != wantErrno || !right() {
		t.Errorf("Frame(%v, %v):\n%v, %v, %d; want\n%v, %v, %d", c, in, got, reports, errno, want, wantReports, wantErrno)
	}
	if !reflect.DeepEqual(deepCluster(four), fourWas) || !sameInput(deepInput(input), inputWas) {
		t.Errorf("Frame(%v, %v): what was handed in is changed", c, in)
	}
	spoilCluster(four)
	spoilInput(input)
	if !right() {
		t.Errorf("Frame(%v, %v): the answer shares memory with what was handed in", c, in)
	}
	spoilCluster(again)
	spoilReports(reportsAgain)
	if !right() {
		t.Errorf("Frame(%v, %v): two answers share memory", c, in)
	}
	checkApart(t, got)
	return got, reports
}

// refused holds Frame to answer an error alone.
func refused(t *testing.T, c api.Cluster, in api.Input, want api.Errno) {
	t.Helper()
	checkFrame(t, c, in)
	got, reports, errno := Frame(c, in)
	if errno != want || !sameCluster(got, api.Cluster{}) || len(reports) != 0 {
		t.Errorf("Bad %d, Frame %d, %d lies: %v, %v, %d; want error %d alone", in.Bad, c.Frame, len(in.Lies), got, reports, errno, want)
	}
}

// full is a computer with a number of its own in each place.
func full(id int) api.Node {
	at := 1000 * (id + 1)
	n := api.Node{Id: id, Frame: at + 7, Tuning: api.Tuning{Dt: one, Q: at + 2, R: one, Gate: 9 * one}}
	for axis := range n.Axis {
		k := at + 10*axis
		n.Axis[axis] = api.State{X: k, V: k + 1, P00: k + 2, P01: k + 3, P11: k + 4, Bent: axis == 1, Missed: k + 6}
		n.Used[axis] = k + 7
	}
	n.Roll = api.Roll{In: [4]bool{true, false, true, true}, Miss: [4]int{1, 0, 2, 0}, Join: [4]int{0, 2, 0, 0}}
	for other := range 4 {
		n.Heard[other] = at + 300 + other
		n.Direct[other] = [3]int{at + 100 + other, at + 110 + other, at + 120 + other}
		n.Agreed[other] = [3]int{at + 200 + other, at + 210 + other, at + 220 + other}
	}
	n.Digest = at + 400
	n.Verdict = api.Verdict{Value: at + 401, Strong: true, Agree: []bool{true, false, id%2 == 0, true}}
	return n
}

// fullCluster is four such computers.
func fullCluster(frame int) api.Cluster {
	return api.Cluster{Frame: frame, Nodes: [4]api.Node{full(0), full(1), full(2), full(3)}}
}

// readings has each node read one number on all axes.
func readings(a, b, c, d int) [4][3]int {
	return [4][3]int{{a, a, a}, {b, b, b}, {c, c, c}, {d, d, d}}
}

// bytesOf is a message in bytes, which must be a right one.
func bytesOf(m api.Message) []byte {
	b, errno := wire.Encode(m)
	if errno != api.OK {
		panic("a message that wire refuses")
	}
	return b
}

// lie is a right message that the bad computer sends.
func lie(phase, to, kind, from, frame int, vals ...int) api.Lie {
	return api.Lie{Phase: phase, To: to, Bytes: bytesOf(api.Message{Kind: kind, From: from, Frame: frame, Vals: vals})}
}

// times is a number so many times.
func times(n, many int) []int { return slices.Repeat([]int{n}, many) }

// anyNumber is mostly one of a few, so that many are alike.
func anyNumber(r *rand.Rand, few int) int {
	if r.Intn(20) == 0 {
		return []int{low, low + 1, -1, -2, 1 << 32, 3 << 32, -1 << 33, top - 1, top}[r.Intn(9)]
	}
	return r.Intn(few)
}

func anyNumbers(r *rand.Rand, few, many int) []int {
	l := make([]int, many)
	for i := range l {
		l[i] = anyNumber(r, few)
	}
	return l
}

// anyNode is a computer of few numbers, whose roll is good at most times.
func anyNode(r *rand.Rand, id int) api.Node {
	n := api.Node{Id: id, Frame: anyNumber(r, 3), Digest: anyNumber(r, 3)}
	n.Tuning = api.Tuning{Dt: r.Intn(2) * one, Q: r.Intn(3) * one, R: r.Intn(3) * one, Gate: anyNumber(r, 30) * (one / 2)}
	for axis := range 3 {
		l := anyNumbers(r, 2, 6)
		n.Axis[axis] = api.State{X: l[0], V: l[1], P00: l[2] * one, P01: l[3], P11: l[4], Bent: r.Intn(9) == 0, Missed: l[5]}
	}
	for other := range 4 {
		n.Roll.In[other] = r.Intn(3) > 0
		if n.Roll.In[other] {
			n.Roll.Miss[other] = r.Intn(3)
		} else {
			n.Roll.Join[other] = r.Intn(3)
		}
		n.Direct[other], n.Agreed[other] = [3]int(anyNumbers(r, 3, 3)), [3]int(anyNumbers(r, 3, 3))
		n.Heard[other] = anyNumber(r, 3)
	}
	if r.Intn(9) == 0 {
		n.Roll.Miss[r.Intn(4)] = anyNumber(r, 4)
	}
	n.Verdict = api.Verdict{Value: anyNumber(r, 3), Strong: r.Intn(3) > 0}
	for range []int{0, 4, 4, 4, 7, 1}[r.Intn(6)] {
		n.Verdict.Agree = append(n.Verdict.Agree, r.Intn(2) == 0)
	}
	return n
}

// anyCluster is four computers, often some of them alike in their axes and their roll.
func anyCluster(r *rand.Rand) api.Cluster {
	c := api.Cluster{Frame: anyNumber(r, 5)}
	if r.Intn(3) > 0 {
		c.Frame = []int{0, 1, 258, 1<<30 - 1, r.Intn(1 << 30)}[r.Intn(5)]
	}
	for id := range c.Nodes {
		c.Nodes[id] = anyNode(r, id)
		if id > 0 && r.Intn(2) == 0 {
			like := c.Nodes[r.Intn(id)]
			c.Nodes[id].Axis, c.Nodes[id].Roll, c.Nodes[id].Tuning = like.Axis, like.Roll, like.Tuning
		}
	}
	if r.Intn(40) == 0 {
		c.Nodes[r.Intn(4)].Id = anyNumber(r, 5)
	}
	return c
}

// anyInput is readings of few numbers, and lies that may well be taken for messages of their phase.
func anyInput(r *rand.Rand, c api.Cluster) api.Input {
	in := api.Input{Bad: r.Intn(5) - 1}
	for id := range 4 {
		in.Read[id] = [3]int(anyNumbers(r, 3, 3))
	}
	if r.Intn(40) == 0 {
		in.Bad = anyNumber(r, 7)
	}
	honest := honestly(c, in.Read)
	for range r.Intn(30) {
		in.Lies = append(in.Lies, anyLie(r, max(0, in.Bad)%4, c.Frame&(1<<31-1), honest))
	}
	return in
}

// anyLie is one lie of a computer; now and then there is something about it for which it is passed over.
func anyLie(r *rand.Rand, bad, frame int, honest api.Cluster) api.Lie {
	phase := r.Intn(5)
	kind, size := ordinary(phase)
	m := api.Message{Kind: kind, From: bad, Frame: frame, Vals: anyNumbers(r, 3, size)}
	if r.Intn(2) == 0 {
		m.Vals = said(honest.Nodes[bad^1], phase)
	}
	l := api.Lie{Phase: phase, To: r.Intn(4)}
	switch r.Intn(16) {
	case 0:
		m.From = r.Intn(4)
	case 1:
		m.Frame ^= 1
	case 2:
		m.Kind = 1 + r.Intn(5)
	case 3:
		m.Vals = anyNumbers(r, 3, r.Intn(25))
	case 4:
		l.Phase = []int{-1, 5, 6, -5, phase + 256, phase + 1<<32, low, top}[r.Intn(8)]
	case 5:
		l.To = []int{-1, 4, 7, l.To - 4, l.To + 256, l.To + 1<<32, low, top}[r.Intn(8)]
	}
	l.Bytes = bytesOf(m)
	switch r.Intn(16) {
	case 0:
		l.Bytes[r.Intn(len(l.Bytes))] ^= byte(1 << r.Intn(8))
	case 1:
		l.Bytes = l.Bytes[:r.Intn(len(l.Bytes))]
	case 2:
		l.Bytes = append(l.Bytes, make([]byte, r.Intn(30))...)
	}
	return l
}

// honestly is a cluster behind a frame in which none is bad.
func honestly(c api.Cluster, read [4][3]int) api.Cluster {
	c.Frame = 0
	for id := range c.Nodes {
		c.Nodes[id].Id = id
	}
	after, _, _ := toldFrame(c, api.Input{Read: read, Bad: -1})
	return after
}

// ordinary is the kind and the size of what is told in each phase.
func ordinary(phase int) (int, int) {
	return []int{1, 2, 3, 2, 5}[phase], []int{3, 12, 1, 4, 24}[phase]
}

// said is what a computer said in a phase of the frame that lies behind it, if it took nobody's state.
func said(n api.Node, phase int) []int {
	switch phase {
	case 0:
		return slices.Clone(n.Direct[n.Id][:])
	case 1:
		return slices.Concat(n.Direct[0][:], n.Direct[1][:], n.Direct[2][:], n.Direct[3][:])
	case 2:
		return []int{n.Digest}
	case 3:
		return slices.Clone(n.Heard[:])
	}
	return numbersOf(n)
}

// numbersOf is a state in numbers, as P12.5 tells it.
func numbersOf(n api.Node) []int {
	l := make([]int, 24)
	for axis, s := range n.Axis {
		at := 7 * axis
		l[at], l[at+1], l[at+2], l[at+3], l[at+4], l[at+6] = s.X, s.V, s.P00, s.P01, s.P11, s.Missed
		if s.Bent {
			l[at+5] = 1
		}
	}
	for id, weight := range []int{512, 64, 8, 1} {
		if n.Roll.In[id] {
			l[21] += 1 << id
		}
		l[22] += weight * n.Roll.Miss[id]
		l[23] += weight * n.Roll.Join[id]
	}
	return l
}
