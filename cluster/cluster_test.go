package cluster

import (
	"math/rand"
	"reflect"
	"slices"
	"testing"

	"fourwatch/api"
)

func TestP13_1Begin(t *testing.T) {
	axis := api.State{P00: 1 << 32, P11: 1 << 32}
	for _, tuned := range []api.Tuning{{}, {Dt: 1, Q: 2, R: 3, Gate: 4}, {Dt: low, Q: top, R: -1, Gate: low}, tuning} {
		want := api.Cluster{}
		for id := range 4 {
			want.Nodes[id] = api.Node{Id: id, Tuning: tuned, Axis: [3]api.State{axis, axis, axis}}
			want.Nodes[id].Roll.In = [4]bool{true, true, true, true}
		}
		if got := Begin(tuned); !sameCluster(got, want) {
			t.Errorf("Begin(%v): %v; want %v", tuned, got, want)
		}
		checkApart(t, Begin(tuned))
	}
}

// The first of the document's examples of the whole.
func TestP13_2Used(t *testing.T) {
	for _, c := range []struct {
		read [4][3]int
		used int
	}{
		{readings(one, one, one, one), one},
		{readings(one, 2*one, 3*one, 50*one), 5 * one / 2},
		{readings(50*one, 3*one, 2*one, one), 5 * one / 2},
	} {
		after, reports := checkFrame(t, Begin(tuning), api.Input{Read: c.read, Bad: -1})
		if after.Frame != 1 || len(reports) != 4 {
			t.Fatalf("%v: frame %d, %v", c.read, after.Frame, reports)
		}
		for id, r := range reports {
			want := api.Report{Node: id, Used: [3]int{c.used, c.used, c.used}, Digest: after.Nodes[0].Digest, Strong: true, In: [4]bool{true, true, true, true}}
			for axis := range 3 {
				want.Place[axis] = after.Nodes[id].Axis[axis].X
			}
			if r != want || after.Nodes[id].Agreed != c.read || after.Nodes[id].Frame != 0 {
				t.Errorf("%v: %v; want %v", c.read, r, want)
			}
		}
	}
}

// Frames and readings go on; the reports are of this frame, of those that are not bad, rising.
func TestP13_2Reports(t *testing.T) {
	for bad := -1; bad < 4; bad++ {
		c := Begin(tuning)
		for frame := range 12 {
			read := readings(frame*one, frame*one+1, frame*one+2, frame*one+3)
			var reports []api.Report
			c, reports = checkFrame(t, c, api.Input{Read: read, Bad: bad})
			if c.Frame != frame+1 {
				t.Errorf("%d is bad, frame %d: behind it, Frame is %d", bad, frame, c.Frame)
			}
			want := slices.DeleteFunc([]int{0, 1, 2, 3}, func(id int) bool { return id == bad })
			got := []int{}
			for _, r := range reports {
				got = append(got, r.Node)
				if r.Frame != frame || r.Digest != c.Nodes[r.Node].Digest || r.Used != c.Nodes[r.Node].Used {
					t.Errorf("%d is bad, frame %d: %v", bad, frame, r)
				}
			}
			if !slices.Equal(got, want) {
				t.Errorf("%d is bad: reports of %v; want %v", bad, got, want)
			}
		}
	}
}

func TestP13_2Bad(t *testing.T) {
	for _, bad := range []int{-1, 0, 1, 2, 3} {
		_, reports, errno := Frame(Begin(tuning), api.Input{Bad: bad})
		if errno != api.OK || len(reports) != 3 && bad >= 0 || len(reports) != 4 && bad == -1 {
			t.Errorf("Bad %d: %v, %d", bad, reports, errno)
		}
	}
	for _, bad := range []int{low, -1 << 32, -256, -5, -4, -3, -2, 4, 5, 7, 255, 256, 1 << 32, 1<<32 + 1, 1<<32 - 1, top} {
		refused(t, Begin(tuning), api.Input{Bad: bad}, api.ErrRange)
	}
}

func TestP13_2FrameNumber(t *testing.T) {
	for _, frame := range []int{0, 1, 2, 255, 256, 1 << 16, 1<<24 + 258, 1<<30 - 2, 1<<30 - 1} {
		for bad := -1; bad < 4; bad++ {
			c := fullCluster(frame)
			got, reports := checkFrame(t, c, api.Input{Read: readings(1, 2, 3, 4), Bad: bad})
			if got.Frame != frame+1 || len(reports) < 3 || reports[2].Frame != frame {
				t.Errorf("Frame %d, %d is bad: %d, %v", frame, bad, got.Frame, reports)
			}
		}
	}
	for _, frame := range []int{low, -1 << 32, -2, -1, 1 << 30, 1<<30 + 1, 1<<31 - 1, 1 << 31, 1 << 32, 1<<32 + 7, top} {
		refused(t, fullCluster(frame), api.Input{Bad: -1}, api.ErrRange)
		refused(t, fullCluster(frame), api.Input{Bad: 2}, api.ErrRange)
	}
}

// At most MaxLies, and the last one of these is heard, too.
func TestP13_2HowManyLies(t *testing.T) {
	for _, many := range []int{1, 2, 399, 400} {
		lies := slices.Repeat([]api.Lie{{Phase: 0, To: 1, Bytes: []byte("no message")}}, many)
		lies[many-1] = lie(0, 1, api.KindReading, 3, 0, 7, 8, 9)
		c, reports := checkFrame(t, Begin(tuning), api.Input{Bad: 3, Lies: lies})
		if len(reports) != 3 || c.Nodes[1].Direct[3] != [3]int{7, 8, 9} {
			t.Errorf("%d lies: %v, %v", many, reports, c.Nodes[1].Direct)
		}
	}
	for _, many := range []int{401, 402, 656, 1000} {
		for bad := -1; bad < 4; bad++ {
			refused(t, Begin(tuning), api.Input{Bad: bad, Lies: make([]api.Lie, many)}, api.ErrFull)
		}
	}
}

// Each computer must stand in its place, the bad one too.
func TestP13_2Id(t *testing.T) {
	for place := range 4 {
		for _, id := range []int{low, -1, 0, 1, 2, 3, 4, place - 4, place + 4, place + 256, place + 1<<32, top} {
			for bad := -1; bad < 4 && id != place; bad++ {
				c := Begin(tuning)
				c.Nodes[place].Id = id
				refused(t, c, api.Input{Bad: bad}, api.ErrNone)
			}
		}
	}
	c := Begin(tuning)
	c.Nodes[1], c.Nodes[2] = c.Nodes[2], c.Nodes[1]
	refused(t, c, api.Input{Bad: -1}, api.ErrNone)
	refused(t, api.Cluster{}, api.Input{Bad: -1}, api.ErrNone)
}

// Of several errors the one that is named first.
func TestP13_2OrderOfErrors(t *testing.T) {
	strange := Begin(tuning)
	strange.Nodes[3].Id = 0
	late := strange
	late.Frame = 1 << 30
	many := make([]api.Lie, 401)
	refused(t, strange, api.Input{Bad: 4, Lies: many}, api.ErrRange)
	refused(t, strange, api.Input{Bad: -2}, api.ErrRange)
	refused(t, late, api.Input{Bad: 0, Lies: many}, api.ErrRange)
	refused(t, late, api.Input{Bad: 0}, api.ErrRange)
	refused(t, Begin(tuning), api.Input{Bad: 4, Lies: many}, api.ErrRange)
	refused(t, strange, api.Input{Bad: 0, Lies: many}, api.ErrFull)
}

// The bad computer stays as it was, its own Frame and its list too, and has no report.
func TestP13_2BadStays(t *testing.T) {
	for bad := range 4 {
		for _, agree := range [][]bool{nil, {}, {true}, {true, false, true, false}, {true, true, true, true, true, true}} {
			c := fullCluster(77)
			c.Nodes[bad].Verdict.Agree = agree
			lies := []api.Lie{lie(0, bad, 1, bad, 77, 1, 2, 3), lie(2, bad, 3, bad, 77, 5), lie(0, bad, 1, bad^1, 77, 4, 5, 6)}
			got, reports := checkFrame(t, c, api.Input{Read: readings(1, 2, 3, 4), Bad: bad, Lies: lies})
			if !sameNode(got.Nodes[bad], c.Nodes[bad]) || got.Nodes[bad].Frame != c.Nodes[bad].Frame {
				t.Errorf("%d was bad: %v; it was %v", bad, got.Nodes[bad], c.Nodes[bad])
			}
			if len(reports) != 3 || slices.ContainsFunc(reports, func(r api.Report) bool { return r.Node == bad }) {
				t.Errorf("%d was bad: %v", bad, reports)
			}
		}
	}
}

// What a cluster is handed need not have come of frames ahead.
func TestP13_2AnyInputs(t *testing.T) {
	r := rand.New(rand.NewSource(132))
	for range 3000 {
		c := anyCluster(r)
		checkFrame(t, c, anyInput(r, c))
	}
}

// checkRun holds Run against what the chapter tells, and what is handed in and answered against one another.
func checkRun(t *testing.T, tuned api.Tuning, l []api.Input) (api.Cluster, []api.Report, api.Errno) {
	t.Helper()
	want, wantReports, wantErrno := toldRun(tuned, l)
	inputs := []api.Input{}
	for _, in := range l {
		inputs = append(inputs, roomyInput(in))
	}
	inputs = append(inputs, api.Input{Bad: 9}, api.Input{Bad: 8})[:len(l)]
	was := deepInputs(inputs)
	got, reports, errno := Run(tuned, inputs)
	again, reportsAgain, _ := Run(tuned, inputs)
	right := func() bool { return sameCluster(got, want) && slices.Equal(reports, wantReports) }
	if errno != wantErrno || !right() {
		t.Errorf("Run of %d: %v, %v, %d; want %v, %v, %d", len(l), got, reports, errno, want, wantReports, wantErrno)
	}
	if !reflect.DeepEqual(deepInputs(inputs), was) {
		t.Errorf("Run of %d: what was handed in is changed", len(l))
	}
	for _, in := range inputs {
		spoilInput(in)
	}
	spoilCluster(again)
	spoilReports(reportsAgain)
	if !right() {
		t.Errorf("Run of %d: the answer shares memory", len(l))
	}
	checkApart(t, got)
	return got, reports, errno
}

func deepInputs(l []api.Input) []api.Input {
	fresh := []api.Input{}
	for _, in := range l[:cap(l)] {
		fresh = append(fresh, deepInput(in))
	}
	return fresh
}

// steady is so many inputs, each with readings of its own.
func steady(many, bad int) []api.Input {
	l := []api.Input{}
	for i := range many {
		l = append(l, api.Input{Read: readings(i, i+1, i+2, i+3), Bad: bad})
	}
	return l
}

func TestP13_4NoInput(t *testing.T) {
	for _, l := range [][]api.Input{nil, {}} {
		c, reports, errno := Run(tuning, l)
		if errno != api.OK || len(reports) != 0 || !sameCluster(c, Begin(tuning)) {
			t.Errorf("Run of nothing: %v, %v, %d", c, reports, errno)
		}
	}
	checkRun(t, api.Tuning{Dt: 1, Q: 2, R: 3, Gate: 4}, nil)
}

func TestP13_4MaxFrames(t *testing.T) {
	for _, many := range []int{1, 2, 199, 200} {
		for _, bad := range []int{-1, 2} {
			c, reports, errno := checkRun(t, tuning, steady(many, bad))
			each := 4
			if bad == 2 {
				each = 3
			}
			if errno != api.OK || c.Frame != many || len(reports) != each*many {
				t.Fatalf("Run of %d: frame %d, %d reports, %d", many, c.Frame, len(reports), errno)
			}
			for i, r := range reports {
				if r.Frame != i/each {
					t.Errorf("report %d is of frame %d", i, r.Frame)
				}
			}
		}
	}
	for _, many := range []int{201, 202, 456, 1000} {
		runRefused(t, steady(many, -1), api.ErrFull)
	}
}

// runRefused holds Run to answer an error alone.
func runRefused(t *testing.T, l []api.Input, want api.Errno) {
	t.Helper()
	c, reports, errno := checkRun(t, tuning, l)
	if errno != want || !sameCluster(c, api.Cluster{}) || len(reports) != 0 {
		t.Errorf("Run of %d: %v, %v, %d; want error %d alone", len(l), c, reports, errno, want)
	}
}

func TestP13_4Refused(t *testing.T) {
	full := api.Input{Bad: -1, Lies: make([]api.Lie, 401)}
	strange := api.Input{Bad: 4}
	for place := range 9 {
		l := steady(9, -1)
		l[place] = full
		runRefused(t, l, api.ErrFull)
		l[place] = strange
		runRefused(t, l, api.ErrRange)
	}
	l := steady(9, 1)
	l[3], l[5] = full, strange
	runRefused(t, l, api.ErrFull)
	l[3], l[5] = strange, full
	runRefused(t, l, api.ErrRange)
	// More than MaxFrames is looked at ahead of any frame.
	runRefused(t, slices.Repeat([]api.Input{strange}, 201), api.ErrFull)
	runRefused(t, slices.Repeat([]api.Input{strange}, 200), api.ErrRange)
}

// Run is what Frame is, one behind the other, whoever is bad in each.
func TestP13_4FrameByFrame(t *testing.T) {
	r := rand.New(rand.NewSource(134))
	for range 40 {
		c, all, l := Begin(tuning), []api.Report{}, []api.Input{}
		for range 1 + r.Intn(20) {
			in := anyInput(r, c)
			after, reports, errno := Frame(c, in)
			if errno != api.OK {
				continue
			}
			c, all, l = after, append(all, reports...), append(l, in)
		}
		got, reports, errno := checkRun(t, tuning, l)
		if errno != api.OK || !sameCluster(got, c) || !slices.Equal(reports, all) {
			t.Errorf("Run of %d is not what the frames are: %v, %d", len(l), reports, errno)
		}
	}
}
