package node

import (
	"math/rand"
	"slices"
	"testing"

	"fourwatch/api"
)

const one = api.One

// four is four computers; silent ones do nothing, and the liar's messages are made by lie.
type four struct {
	nodes  [4]api.Node
	silent [4]bool
	frame  int
	lie    func(phase, to int) []api.Message
}

func newFour(t *testing.T) *four {
	f := &four{lie: func(int, int) []api.Message { return nil }}
	for id := range 4 {
		n, errno := Begin(id, api.Tuning{Dt: one, Q: one, R: one, Gate: 16 * one})
		if errno != api.OK {
			t.Fatalf("Begin(%d): %d", id, errno)
		}
		f.nodes[id] = n
	}
	return f
}

// run takes all computers that are not silent through a frame, each phase held against what the chapter tells.
func (f *four) run(t *testing.T, read [4][3]int) [4]api.Report {
	t.Helper()
	sent := [4]api.Message{}
	for id := range 4 {
		if !f.silent[id] {
			f.nodes[id], sent[id] = checkSense(t, f.nodes[id], f.frame, read[id])
		}
	}
	reports := [4]api.Report{}
	for at, p := range phases() {
		told := sent
		for id := range 4 {
			if f.silent[id] {
				continue
			}
			n, beside := check(t, p, f.nodes[id], f.heardBy(id, at, told))
			f.nodes[id], sent[id], reports[id] = n, beside.message, beside.report
		}
	}
	f.frame++
	return reports
}

// heardBy is what the others told one, and the lies.
func (f *four) heardBy(id, at int, told [4]api.Message) []api.Message {
	in := f.lie(at, id)
	for node, m := range told {
		if node != id && !f.silent[node] {
			in = append(in, m)
		}
	}
	return in
}

// checkAlike holds those that are not silent to be alike in all that they must be.
func (f *four) checkAlike(t *testing.T) {
	t.Helper()
	first := slices.Index(f.silent[:], false)
	for id, n := range f.nodes {
		m := f.nodes[first]
		if f.silent[id] {
			continue
		}
		if n.Axis != m.Axis || n.Roll != m.Roll || n.Agreed != m.Agreed || n.Used != m.Used || n.Digest != m.Digest || !slices.Equal(n.Verdict.Agree, m.Verdict.Agree) {
			t.Errorf("frame %d: computers %d and %d are not alike: %v, %v", f.frame, first, id, m, n)
		}
	}
}

// readings has each node read one number on all axes.
func readings(a, b, c, d int) [4][3]int {
	return [4][3]int{{a, a, a}, {b, b, b}, {c, c, c}, {d, d, d}}
}

// The first of the document's examples of the whole.
func TestP12_4Used(t *testing.T) {
	for _, c := range []struct {
		read [4][3]int
		used int
	}{
		{readings(one, one, one, one), one},
		{readings(one, 2*one, 3*one, 50*one), 5 * one / 2},
		{readings(50*one, 3*one, 2*one, one), 5 * one / 2},
	} {
		f := newFour(t)
		reports := f.run(t, c.read)
		f.checkAlike(t)
		for id, r := range reports {
			if r.Used != [3]int{c.used, c.used, c.used} || r.Node != id || r.Frame != 0 || !r.Strong || r.Digest != f.nodes[0].Digest || r.In != [4]bool{true, true, true, true} {
				t.Errorf("%v: %v; want %d used", c.read, r, c.used)
			}
			if f.nodes[id].Agreed != c.read {
				t.Errorf("%v: computer %d agreed %v", c.read, id, f.nodes[id].Agreed)
			}
		}
	}
}

// All four go on frame after frame, each axis on its own, and none is ever put out.
func TestP12_2FrameAfterFrame(t *testing.T) {
	f := newFour(t)
	r := rand.New(rand.NewSource(5))
	for frame := range 30 {
		read := [4][3]int{}
		for node := range 4 {
			read[node] = [3]int{frame*one + r.Intn(one), -frame*one + r.Intn(one), r.Intn(100 * one)}
		}
		for id, report := range f.run(t, read) {
			if report.Frame != frame || !report.Strong || report.In != [4]bool{true, true, true, true} || report.Digest != f.nodes[id].Digest {
				t.Errorf("frame %d: %v", frame, report)
			}
		}
		f.checkAlike(t)
	}
	n := f.nodes[3]
	if n.Axis[0].X < 25*one || n.Axis[1].X > -25*one || n.Roll.Miss != [4]int{} {
		t.Errorf("behind thirty frames: %v, %v", n.Axis, n.Roll)
	}
}

// The second example: node 3 tells each of the others another thing.
func TestP12_4ThreeTales(t *testing.T) {
	f := newFour(t)
	f.silent[3] = true
	f.lie = func(phase, to int) []api.Message {
		switch {
		case phase == 0 && to == 0:
			return []api.Message{{Kind: api.KindReading, From: 3, Vals: []int{9, 9, 9}}}
		case phase == 0 && to == 1:
			return []api.Message{{Kind: api.KindReading, From: 3, Vals: []int{-9, -9, -9}}}
		}
		return nil
	}
	reports := f.run(t, readings(4, 5, 6, 7))
	f.checkAlike(t)
	for id := range 3 {
		if f.nodes[id].Agreed != readings(4, 5, 6, 0) || reports[id].Used != [3]int{4, 4, 4} || !reports[id].Strong {
			t.Errorf("computer %d: %v, %v", id, f.nodes[id].Agreed, reports[id])
		}
		if f.nodes[id].Roll.Miss != [4]int{0, 0, 0, 1} {
			t.Errorf("computer %d: %v", id, f.nodes[id].Roll)
		}
	}
}

// The third example: node 2 is silent in two frames, is put out, takes the others' state, and is let in again.
func TestP12_8LostAndFound(t *testing.T) {
	f := newFour(t)
	read := readings(one, one, one, one)
	f.run(t, read)
	f.silent[2] = true
	for frame, out := range []bool{false, true} {
		reports := f.run(t, read)
		f.checkAlike(t)
		if reports[0].In[2] == out || !reports[0].Strong {
			t.Errorf("silent frame %d: %v", frame, reports[0])
		}
	}
	f.silent[2] = false
	before := f.nodes[2]
	reports := f.run(t, read)
	after := f.nodes[2]
	if after.Axis != f.nodes[0].Axis || after.Roll != f.nodes[0].Roll || after.Axis == before.Axis || after.Digest == f.nodes[0].Digest || reports[2].In[2] {
		t.Errorf("the first frame behind: %v; the others have %v", after, f.nodes[0])
	}
	for frame, join := range []int{1, 2, 0} {
		reports = f.run(t, read)
		f.checkAlike(t)
		if f.nodes[2].Roll.Join[2] != join || reports[2].In[2] != (frame == 2) || reports[2] != as(reports[0], 2) {
			t.Errorf("frame of assent %d: %v, %v", frame, f.nodes[2].Roll, reports)
		}
	}
}

// as is a report, had another node put it out.
func as(r api.Report, node int) api.Report {
	r.Node = node
	return r
}

// Whatever one of them sends in each phase, the three others stay alike, believe one another, and stay in.
func TestP12_4AnyLies(t *testing.T) {
	r := rand.New(rand.NewSource(8))
	for round := range 40 {
		f := newFour(t)
		bad := round % 4
		f.silent[bad] = true
		f.lie = func(phase, to int) []api.Message { return lies(r, f, bad, phase) }
		for range 12 {
			read := [4][3]int{}
			for node := range 4 {
				read[node] = [3]int(anyNumbers(r, 4*one, 3))
			}
			f.run(t, read)
			f.checkAlike(t)
			f.checkHonest(t, bad, read)
		}
	}
}

// lies are messages that may well be taken for right ones.
func lies(r *rand.Rand, f *four, bad, at int) []api.Message {
	p := phases()[at]
	l := []api.Message{}
	for range r.Intn(3) {
		m := api.Message{Kind: p.kind, From: bad, Frame: f.frame, Vals: anyNumbers(r, 3, p.size)}
		if good := f.nodes[(bad+1)%4]; r.Intn(2) == 0 && p.size <= 4 {
			m.Vals = times(good.Digest, p.size)
		}
		l = append(l, m)
	}
	return l
}

// checkHonest holds of each good computer that the others took what it read for read, that all of them agreed, and that it is in.
func (f *four) checkHonest(t *testing.T, bad int, read [4][3]int) {
	t.Helper()
	for id, n := range f.nodes {
		for node := range 4 {
			if id != bad && node != bad && (n.Agreed[node] != read[node] || !n.Verdict.Agree[node] || !n.Roll.In[node] || n.Roll.Miss[node] != 0) {
				t.Errorf("frame %d: computer %d of %d, %d being bad: %v, %v, %v", f.frame, id, node, bad, n.Agreed, n.Verdict, n.Roll)
			}
		}
	}
}
