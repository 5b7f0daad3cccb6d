package cluster

import (
	"encoding/binary"
	"hash/crc32"
	"slices"
	"testing"

	"fourwatch/api"
)

// inboxes is what each computer gets of what all tell in a phase, as a phase that is handed on sees it.
func inboxes(in api.Input, number int, told [4]api.Message) [4][]api.Message {
	w := atWork(Begin(tuning), in)
	w.send(number, told)
	got := [4][]api.Message{}
	w.do(func(n api.Node, l []api.Message) (api.Node, api.Message) {
		got[n.Id] = l
		return n, api.Message{}
	})
	return got
}

// tales is a message of each computer, each with Vals of its own.
func tales() [4]api.Message {
	told := [4]api.Message{}
	for id := range told {
		told[id] = api.Message{Kind: 1 + id, From: id, Frame: 70 + id, Vals: times(low+id, 6*id)}
	}
	return told
}

// Each gets the others' messages, by sender, rising, and those of the bad computer not at all.
func TestP13_3WhoGetsWhat(t *testing.T) {
	told := tales()
	for bad := -1; bad < 4; bad++ {
		for number := range 5 {
			for to, got := range inboxes(api.Input{Bad: bad}, number, told) {
				want := []api.Message{}
				for from, m := range told {
					if from != to && from != bad && to != bad {
						want = append(want, m)
					}
				}
				if !slices.EqualFunc(got, want, sameMessage) {
					t.Errorf("%d is bad: %d gets %v; want %v", bad, to, got, want)
				}
			}
		}
	}
}

// What one gets is out of the bytes: no two get the same memory, and none gets that of the sender.
func TestP13_3MessagesApart(t *testing.T) {
	told := tales()
	got := inboxes(api.Input{Bad: 2}, 3, told)
	for _, m := range got[0] {
		for i := range m.Vals {
			m.Vals[i] = 99
		}
	}
	for to := range 4 {
		for _, m := range got[to] {
			if to != 0 && slices.Contains(m.Vals, 99) {
				t.Errorf("%d gets the memory that 0 gets", to)
			}
		}
	}
	if slices.ContainsFunc(told[:], func(m api.Message) bool { return slices.Contains(m.Vals, 99) }) {
		t.Errorf("a message is not what came out of bytes, but the sender's own")
	}
}

// A message that wire refuses is not sent; the others' are.
func TestP13_3Unsent(t *testing.T) {
	for _, m := range []api.Message{
		{},
		{Kind: 0, From: 1, Vals: []int{1, 2, 3}},
		{Kind: 6, From: 1, Vals: []int{1, 2, 3}},
		{Kind: 257, From: 1, Vals: []int{1, 2, 3}},
		{Kind: 1, From: -1, Vals: []int{1, 2, 3}},
		{Kind: 1, From: 4, Vals: []int{1, 2, 3}},
		{Kind: 1, From: 1, Frame: -1, Vals: []int{1, 2, 3}},
		{Kind: 1, From: 1, Frame: 1 << 31, Vals: []int{1, 2, 3}},
		{Kind: 5, From: 1, Vals: make([]int, 25)},
	} {
		for number := range 5 {
			told := tales()
			told[1] = m
			got := inboxes(api.Input{Bad: -1}, number, told)
			if !slices.EqualFunc(got[0], []api.Message{told[2], told[3]}, sameMessage) || !slices.EqualFunc(got[3], []api.Message{told[0], told[2]}, sameMessage) || len(got[1]) != 3 {
				t.Errorf("1 tells %v: %v", m, got)
			}
		}
	}
	told := tales()
	told[1] = api.Message{Kind: 5, From: 1, Frame: 1<<31 - 1, Vals: make([]int, 24)}
	if got := inboxes(api.Input{Bad: -1}, 0, told); len(got[0]) != 3 || !sameMessage(got[0][0], told[1]) {
		t.Errorf("1 tells what is just right: %v", got[0])
	}
}

// The lies stand where the bad computer's messages would: in their order, each for the phase and the one that it names.
func TestP13_3LiesInPlace(t *testing.T) {
	told := tales()
	for bad := range 4 {
		lies := []api.Lie{}
		for i := range 60 {
			lies = append(lies, lie(i*7%5, i*5%4, 1+i%5, bad, i, i, -i))
		}
		for number := range 5 {
			for to, got := range inboxes(api.Input{Bad: bad, Lies: lies}, number, told) {
				want := []api.Message{}
				for from := range 4 {
					for i := range 60 {
						if from == bad && i*7%5 == number && i*5%4 == to {
							want = append(want, api.Message{Kind: 1 + i%5, From: bad, Frame: i, Vals: []int{i, -i}})
						}
					}
					if from != bad && from != to {
						want = append(want, told[from])
					}
				}
				if to != bad && (len(want) != 5 || !slices.EqualFunc(got, want, sameMessage)) {
					t.Errorf("%d is bad: in phase %d, %d gets %v; want %v", bad, number, to, got, want)
				}
				if to == bad && len(got) != 0 {
					t.Errorf("%d is bad, and goes through a phase with %v", bad, got)
				}
			}
		}
	}
}

// passedOver are lies of each phase that nobody may hear, whoever is bad.
func passedOver(bad, phase int) []api.Lie {
	kind, size := ordinary(phase)
	vals := times(33*one, size)
	l := []api.Lie{lie(phase, bad, kind, bad, 0, vals...)}
	for to := range 4 {
		for _, number := range []int{low, -5, -1, 5, 6, 256 + phase, 1<<32 + phase, top} {
			l = append(l, lie(number, to, kind, bad, 0, vals...))
		}
		for from := range 4 {
			if from != bad {
				l = append(l, lie(phase, to, kind, from, 0, vals...))
			}
		}
		spoilt := lie(phase, to, kind, bad, 0, vals...)
		spoilt.Bytes[9] ^= 1
		short, long := lie(phase, to, kind, bad, 0, vals...), lie(phase, to, kind, bad, 0, vals...)
		short.Bytes, long.Bytes = short.Bytes[:len(short.Bytes)-1], append(long.Bytes, 0)
		l = append(l, spoilt, short, long, api.Lie{Phase: phase, To: to}, api.Lie{Phase: phase, To: to, Bytes: make([]byte, 300)})
	}
	for _, to := range []int{low, -4, -1, 4, 5, 256, 1 << 32, 1<<32 + 1, top} {
		l = append(l, lie(phase, to, kind, bad, 0, vals...))
	}
	return l
}

// Lies to the bad computer itself, to nobody, in no phase, of bytes that are no message or of another one's name are as if they were not there.
func TestP13_3LiesPassedOver(t *testing.T) {
	read := readings(one, 2*one, 3*one, 4*one)
	for bad := range 4 {
		want, wantReports, _ := Frame(Begin(tuning), api.Input{Read: read, Bad: bad})
		for phase := range 5 {
			in := api.Input{Read: read, Bad: bad, Lies: passedOver(bad, phase)}
			got, reports := checkFrame(t, Begin(tuning), in)
			if !sameCluster(got, want) || !slices.Equal(reports, wantReports) {
				t.Errorf("%d is bad: lies of phase %d are heard: %v", bad, phase, got)
			}
			for to, l := range inboxes(in, phase, tales()) {
				if to != bad && len(l) != 2 {
					t.Errorf("%d is bad: in phase %d, %d gets %v", bad, phase, to, l)
				}
			}
		}
	}
}

// While none is bad, no lie is heard, in whosever name.
func TestP13_3LiesOfNobody(t *testing.T) {
	read := readings(one, 2*one, 3*one, 4*one)
	want, wantReports, _ := Frame(Begin(tuning), api.Input{Read: read, Bad: -1})
	for phase := range 5 {
		kind, size := ordinary(phase)
		in := api.Input{Read: read, Bad: -1}
		for from := range 4 {
			for to := -1; to < 5; to++ {
				in.Lies = append(in.Lies, lie(phase, to, kind, from, 0, times(9*one, size)...))
			}
		}
		got, reports := checkFrame(t, Begin(tuning), in)
		if !sameCluster(got, want) || !slices.Equal(reports, wantReports) {
			t.Errorf("lies of phase %d are heard: %v", phase, got)
		}
		for to, l := range inboxes(in, phase, tales()) {
			if len(l) != 3 {
				t.Errorf("in phase %d, %d gets %v", phase, to, l)
			}
		}
	}
}

// Of several lies to one computer in one phase the first that fits counts.
func TestP13_3OrderOfLies(t *testing.T) {
	for _, c := range []struct {
		lies []api.Lie
		want [3]int
	}{
		{[]api.Lie{lie(0, 1, 1, 0, 0, 1, 2, 3), lie(0, 1, 1, 0, 0, 4, 5, 6)}, [3]int{1, 2, 3}},
		{[]api.Lie{lie(0, 1, 1, 0, 0, 4, 5, 6), lie(0, 1, 1, 0, 0, 1, 2, 3)}, [3]int{4, 5, 6}},
		{[]api.Lie{lie(0, 2, 1, 0, 0, 1, 2, 3), lie(0, 1, 1, 0, 0, 4, 5, 6)}, [3]int{4, 5, 6}},
		{[]api.Lie{lie(1, 1, 1, 0, 0, 1, 2, 3), lie(0, 1, 1, 0, 0, 4, 5, 6)}, [3]int{4, 5, 6}},
		{[]api.Lie{lie(0, 1, 3, 0, 0, 1, 2, 3), lie(0, 1, 1, 0, 0, 4, 5, 6)}, [3]int{4, 5, 6}},
		{[]api.Lie{lie(0, 1, 1, 0, 1, 1, 2, 3), lie(0, 1, 1, 0, 0, 4, 5, 6)}, [3]int{4, 5, 6}},
		{[]api.Lie{lie(0, 1, 1, 3, 0, 1, 2, 3), lie(0, 1, 1, 0, 0, 4, 5, 6)}, [3]int{4, 5, 6}},
		{[]api.Lie{lie(0, 1, 1, 0, 0, 1, 2), lie(0, 1, 1, 0, 0, 4, 5, 6), lie(0, 1, 1, 0, 0, 7, 8, 9)}, [3]int{4, 5, 6}},
		{[]api.Lie{{Phase: 0, To: 1, Bytes: []byte("W")}, lie(0, 1, 1, 0, 0, 4, 5, 6)}, [3]int{4, 5, 6}},
	} {
		got, _ := checkFrame(t, Begin(tuning), api.Input{Bad: 0, Lies: c.lies})
		if got.Nodes[1].Direct[0] != c.want {
			t.Errorf("%v: 1 heard %v; want %v", c.lies, got.Nodes[1].Direct[0], c.want)
		}
	}
}

// The second of the document's examples of the whole: three tales, and all take the same for said.
func TestP13_3ThreeTales(t *testing.T) {
	lies := []api.Lie{lie(0, 0, 1, 3, 0, 9, 9, 9), lie(0, 1, 1, 3, 0, -9, -9, -9)}
	c, reports := checkFrame(t, Begin(tuning), api.Input{Read: readings(4, 5, 6, 7), Bad: 3, Lies: lies})
	for id := range 3 {
		n := c.Nodes[id]
		if n.Agreed != readings(4, 5, 6, 0) || n.Direct[3] != [][3]int{{9, 9, 9}, {-9, -9, -9}, {}}[id] {
			t.Errorf("%d: %v, %v", id, n.Agreed, n.Direct)
		}
		if reports[id].Used != [3]int{4, 4, 4} || !reports[id].Strong || n.Roll.Miss != [4]int{0, 0, 0, 1} {
			t.Errorf("%d: %v, %v", id, reports[id], n.Roll)
		}
	}
}

// What the bad computer tells two of the three alike is taken for said by all, be it a reading or a vote.
func TestP13_3LiesBelieved(t *testing.T) {
	lies := []api.Lie{lie(0, 0, 1, 1, 0, 8, 8, 8), lie(0, 2, 1, 1, 0, 5, 5, 5), lie(0, 3, 1, 1, 0, 8, 8, 8)}
	read := readings(4, 100, 6, 7)
	first, _ := checkFrame(t, Begin(tuning), api.Input{Read: read, Bad: 1, Lies: lies})
	digest := first.Nodes[0].Digest
	lies = append(lies, lie(2, 0, 3, 1, 0, digest), lie(2, 2, 3, 1, 0, 5), lie(2, 3, 3, 1, 0, digest))
	c, reports := checkFrame(t, Begin(tuning), api.Input{Read: read, Bad: 1, Lies: lies})
	for i, id := range []int{0, 2, 3} {
		n := c.Nodes[id]
		if n.Agreed != readings(4, 8, 6, 7) || n.Digest != digest || n.Roll != Begin(tuning).Nodes[0].Roll {
			t.Errorf("%d: %v, %v", id, n.Agreed, n.Roll)
		}
		if reports[i].Node != id || reports[i].Used != [3]int{6, 6, 6} || !slices.Equal(n.Verdict.Agree, []bool{true, true, true, true}) {
			t.Errorf("%d: %v, %v", id, reports[i], n.Verdict)
		}
	}
	if c.Nodes[2].Heard != [4]int{digest, 5, digest, digest} {
		t.Errorf("2 heard %v", c.Nodes[2].Heard)
	}
}

// A lie of the last phase is heard in Close: 2 has lost its way, and the bad computer is one of the two that tell it theirs.
func TestP13_3LieInClose(t *testing.T) {
	c := Begin(tuning)
	for id := range 4 {
		c.Nodes[id].Axis[0].X = id * one
		c.Nodes[id].Roll.In = [4]bool{true, false, true, true}
	}
	read := readings(one, one, one, one)
	first, _ := checkFrame(t, c, api.Input{Read: read, Bad: 3})
	vote := []api.Lie{}
	for to := range 3 {
		vote = append(vote, lie(2, to, 3, 3, 0, first.Nodes[0].Digest))
	}
	second, _ := checkFrame(t, c, api.Input{Read: read, Bad: 3, Lies: vote})
	state := numbersOf(second.Nodes[0])
	if second.Nodes[2].Axis == second.Nodes[0].Axis || !second.Nodes[2].Verdict.Strong {
		t.Fatalf("2 without a state: %v", second.Nodes[2])
	}
	for phase := range 5 {
		in := api.Input{Read: read, Bad: 3, Lies: append(slices.Clone(vote), lie(phase, 2, 5, 3, 0, state...))}
		got, reports := checkFrame(t, c, in)
		took := got.Nodes[2].Axis == got.Nodes[0].Axis && got.Nodes[2].Roll == got.Nodes[0].Roll
		if took != (phase == 4) || (reports[2].Place == reports[0].Place) != took {
			t.Errorf("a state in phase %d: 2 has %v, 0 has %v", phase, got.Nodes[2].Axis, got.Nodes[0].Axis)
		}
	}
}

// The third of the document's examples of the whole: put out, lost, and let in again.
func TestP13_3LostAndFound(t *testing.T) {
	c, l := Begin(tuning), []api.Report{}
	c, _ = checkFrame(t, c, api.Input{Read: readings(one, one, one, one), Bad: -1})
	for _, in := range []bool{true, false} {
		c, l = checkFrame(t, c, api.Input{Read: readings(one, one, one, one), Bad: 2})
		if l[0].In != [4]bool{true, true, in, true} || c.Nodes[2].Axis == c.Nodes[0].Axis {
			t.Errorf("2 is silent: %v", l[0])
		}
	}
	for frame, in := range []bool{false, false, false, true} {
		c, l = checkFrame(t, c, api.Input{Read: readings(one, one, one, one), Bad: -1})
		if l[0].In[2] != in || c.Nodes[2].Axis != c.Nodes[0].Axis || c.Nodes[2].Roll != c.Nodes[0].Roll {
			t.Errorf("2 is good again, frame %d: %v, %v", frame, l, c.Nodes[2])
		}
		if (l[2].Digest == l[0].Digest) != (frame > 0) {
			t.Errorf("2 is good again, frame %d: digests %x and %x", frame, l[2].Digest, l[0].Digest)
		}
	}
}

// reckonedRead is the readings that the other program had.
func reckonedRead(frame int) [4][3]int {
	read := [4][3]int{}
	for id := range read {
		read[id] = [3]int{frame*one + id*(one/8), -frame*frame*(one/16) - id, 37 * (frame + 1) * (id + 2) % 101 * (one / 16)}
	}
	return read
}

// reckonedLies is the lies that the other program had: all of them in the name of 1.
func reckonedLies(frame int) []api.Lie {
	l := []api.Lie{}
	for _, to := range []int{3, 0, 2} {
		x := one
		if to == 3 {
			x = -one
		}
		l = append(l, lie(0, to, 1, 1, frame, frame*one, 5*x, x), lie(1, to, 2, 1, frame, times(7*one, 12)...), lie(2, to, 3, 1, frame, 5))
		l = append(l, lie(3, to, 2, 1, frame, 5, 6, 7, to), lie(4, to, 5, 1, frame, times(1, 24)...))
	}
	return l
}

// sumOf is a sum over all numbers of reports.
func sumOf(l []api.Report) uint32 {
	b := []byte{}
	put := func(n int) { b = binary.BigEndian.AppendUint64(b, uint64(n)) }
	for _, r := range l {
		put(r.Node)
		put(r.Frame)
		for _, n := range append(r.Used[:], r.Place[:]...) {
			put(n)
		}
		put(r.Digest)
		flags := [2]int{}
		if r.Strong {
			flags[0] = 1
		}
		for id, in := range r.In {
			if in {
				flags[1] += 1 << id
			}
		}
		put(flags[0])
		put(flags[1])
	}
	return crc32.ChecksumIEEE(b)
}

// The sums were reckoned by another program, which has all layers anew.
func TestP13_3Reckoned(t *testing.T) {
	for _, c := range []struct {
		name string
		bad  []int
		lies bool
		sums []uint32
	}{
		{"none is bad", times(-1, 8), false, []uint32{0x183117D9, 0xE5D2AFA6, 0x7FCCFD91, 0x2D37ED25, 0xC3533B15, 0xD48E6D9E, 0x45F3C266, 0xCDD405F1}},
		{"1 lies", times(1, 8), true, []uint32{0xEC34E3B5, 0xEC666BB2, 0x7DAE8121, 0x54C6BFCA, 0x08BE4868, 0x1B699CA6, 0x4862AF2B, 0x634D5E6D}},
		{"2, then 0 is silent", []int{2, 2, 2, -1, -1, -1, -1, -1, 0, 0, -1, -1, -1, -1, -1}, false, []uint32{
			0x0FE012C0, 0xF546A808, 0x7896BD8D, 0x6D29B874, 0x609B3326, 0xDB5CF874, 0xB4931B6C, 0x0C1DD67D, 0xC42EC65E, 0xF0787D6E, 0x4B8A15C9, 0x7979A739, 0xC6C57FBF, 0xA27C83CD, 0xC0C23510}},
		{"each in turn", slices.Repeat([]int{0, 1, 2, 3}, 3), true, []uint32{
			0xB0DED869, 0x90285BE3, 0x0B325C43, 0x623B8D3F, 0x9315E1E2, 0xB2FD3EE3, 0xD83D8915, 0x567EA3C8, 0xFF510E54, 0xE673E03C, 0xEA0C7B81, 0x28C329B4}},
	} {
		four := Begin(tuning)
		for frame, bad := range c.bad {
			in := api.Input{Read: reckonedRead(frame), Bad: bad}
			if c.lies {
				in.Lies = reckonedLies(frame)
			}
			var reports []api.Report
			four, reports = checkFrame(t, four, in)
			if got := sumOf(reports); got != c.sums[frame] {
				t.Errorf("%s, frame %d: sum %08X; want %08X; %v", c.name, frame, got, c.sums[frame], reports)
			}
		}
	}
}
