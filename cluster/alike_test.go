package cluster

import (
	"math/rand"
	"slices"
	"testing"

	"fourwatch/api"
)

// checkAlike holds all that P13.5 tells of the computers that are not bad.
func checkAlike(t *testing.T, c api.Cluster, bad int, read [4][3]int) {
	t.Helper()
	good := slices.DeleteFunc([]int{0, 1, 2, 3}, func(id int) bool { return id == bad })
	first := c.Nodes[good[0]]
	for _, id := range good {
		n := c.Nodes[id]
		if n.Axis != first.Axis || n.Roll != first.Roll || n.Agreed != first.Agreed || n.Used != first.Used || n.Digest != first.Digest {
			t.Errorf("%d is bad, behind frame %d: %d has %v, %d has %v", bad, n.Frame, first.Id, first, id, n)
		}
		if v, w := n.Verdict, first.Verdict; v.Value != w.Value || v.Strong != w.Strong || !slices.Equal(v.Agree, w.Agree) || len(v.Agree) != 4 {
			t.Errorf("%d is bad, behind frame %d: verdicts %v and %v", bad, n.Frame, w, v)
		}
		for _, other := range good {
			if n.Agreed[other] != read[other] || !n.Roll.In[other] {
				t.Errorf("%d is bad, behind frame %d: %d of %d: agreed %v, read %v, %v", bad, n.Frame, id, other, n.Agreed[other], read[other], n.Roll)
			}
		}
		for axis, used := range n.Used {
			l := []int{}
			for _, other := range good {
				l = append(l, read[other][axis])
			}
			if used < slices.Min(l) || used > slices.Max(l) {
				t.Errorf("%d is bad, behind frame %d: %d is used of %v", bad, n.Frame, used, l)
			}
		}
	}
}

// A liar knows what the others read and vote, and tells the truth, the same or anything to some of them.
type liar struct {
	*rand.Rand
	bad   int
	truth int // of ten votes, how many are right ones
}

// lies is what the liar sends in a frame.
func (l *liar) lies(c api.Cluster, read [4][3]int) []api.Lie {
	all := l.readings(c.Frame, read)
	behind, _, _ := Frame(c, api.Input{Read: read, Bad: l.bad, Lies: all})
	model := behind.Nodes[l.bad^1]
	for to := range 4 {
		vote := model.Digest
		if l.Intn(10) >= l.truth {
			vote = anyNumber(l.Rand, 3)
		}
		if l.truth == 10 || l.Intn(5) > 0 {
			all = append(all, lie(2, to, 3, l.bad, c.Frame, vote))
		}
	}
	for range l.Intn(20) {
		all = append(all, anyLie(l.Rand, l.bad, c.Frame, behind))
	}
	for _, phase := range []int{1, 3, 4} {
		kind, _ := ordinary(phase)
		vals := said(model, phase)
		vals[l.Intn(len(vals))] = anyNumber(l.Rand, 3)
		all = append(all, lie(phase, l.Intn(4), kind, l.bad, c.Frame, vals...))
	}
	return all
}

// readings is what the liar says that it read.
func (l *liar) readings(frame int, read [4][3]int) []api.Lie {
	all := []api.Lie{}
	same := anyNumbers(l.Rand, 3, 3)
	for to := range 4 {
		switch l.Intn(4) {
		case 0:
			all = append(all, lie(0, to, 1, l.bad, frame, same...))
		case 1:
			all = append(all, lie(0, to, 1, l.bad, frame, anyNumbers(l.Rand, 3, 3)...))
		case 2:
			all = append(all, lie(0, to, 1, l.bad, frame, read[l.Intn(4)][:]...))
		}
	}
	return all
}

// anyTuning is an ordinary one at most times.
func anyTuning(r *rand.Rand) api.Tuning {
	if r.Intn(3) == 0 {
		l := anyNumbers(r, 3, 4)
		return api.Tuning{Dt: l[0], Q: l[1], R: l[2], Gate: l[3]}
	}
	return tuning
}

// anyRead is readings that lie near one another, or anywhere.
func anyRead(r *rand.Rand, frame int) [4][3]int {
	read := [4][3]int{}
	for id := range read {
		read[id] = [3]int{frame*one + r.Intn(one), anyNumber(r, 4), int(r.Uint64())}
	}
	return read
}

func TestP13_5NoneBad(t *testing.T) {
	r := rand.New(rand.NewSource(1350))
	for range 20 {
		c := Begin(anyTuning(r))
		for frame := range 30 {
			in := api.Input{Read: anyRead(r, frame), Bad: -1}
			for range r.Intn(5) {
				in.Lies = append(in.Lies, anyLie(r, r.Intn(4), frame, c))
			}
			c, _ = checkFrame(t, c, in)
			checkAlike(t, c, -1, in.Read)
			if n := c.Nodes[0]; !n.Verdict.Strong || n.Roll.Miss != [4]int{} || n.Agreed != in.Read {
				t.Errorf("behind frame %d: %v", frame, n)
			}
		}
	}
}

// Whatever one and the same computer sends: put out, let in again, believed or not.
func TestP13_5OneBad(t *testing.T) {
	r := rand.New(rand.NewSource(1351))
	out, back, believed := [4]int{}, [4]int{}, [4]int{}
	for round := range 48 {
		l := &liar{Rand: r, bad: round % 4}
		c := Begin(anyTuning(r))
		for frame := range 40 {
			if frame%5 == 0 {
				l.truth = []int{0, 4, 10, 10}[r.Intn(4)]
			}
			in := api.Input{Read: anyRead(r, frame), Bad: l.bad}
			in.Lies = l.lies(c, in.Read)
			was := c.Nodes[l.bad^1].Roll.In[l.bad]
			c, _ = checkFrame(t, c, in)
			checkAlike(t, c, l.bad, in.Read)
			n := c.Nodes[l.bad^1]
			switch is := n.Roll.In[l.bad]; {
			case was && !is:
				out[l.bad]++
			case !was && is:
				back[l.bad]++
			}
			if n.Agreed[l.bad] != [3]int{} {
				believed[l.bad]++
			}
		}
	}
	for id := range 4 {
		if out[id] < 5 || back[id] < 5 || believed[id] < 50 {
			t.Errorf("%d lied too little: %d times out, %d times back, %d times believed", id, out[id], back[id], believed[id])
		}
	}
}

// One that says nothing is out in the second frame, and stays out.
func TestP13_5OneSilent(t *testing.T) {
	r := rand.New(rand.NewSource(1352))
	for bad := range 4 {
		c := Begin(tuning)
		for frame := range 20 {
			read := anyRead(r, frame)
			c, _ = checkFrame(t, c, api.Input{Read: read, Bad: bad})
			checkAlike(t, c, bad, read)
			if in := c.Nodes[bad^1].Roll.In[bad]; in != (frame == 0) {
				t.Errorf("%d is silent, behind frame %d: in is %v", bad, frame, in)
			}
		}
	}
}

// The same by Run: of each frame, all reports but for their Node are one.
func TestP13_5RunAlike(t *testing.T) {
	r := rand.New(rand.NewSource(1353))
	for bad := range 4 {
		l, all := &liar{Rand: r, bad: bad, truth: 5}, []api.Input{}
		c := Begin(tuning)
		for frame := range 60 {
			in := api.Input{Read: anyRead(r, frame), Bad: bad}
			in.Lies = l.lies(c, in.Read)
			c, _, _ = Frame(c, in)
			all = append(all, in)
		}
		last, reports, errno := checkRun(t, tuning, all)
		if errno != api.OK || len(reports) != 180 {
			t.Fatalf("%d is bad: %d reports, %d", bad, len(reports), errno)
		}
		checkAlike(t, last, bad, all[59].Read)
		for i, report := range reports {
			like := reports[i/3*3]
			like.Node = report.Node
			if report != like {
				t.Errorf("%d is bad: %v; want %v", bad, report, like)
			}
		}
	}
}
