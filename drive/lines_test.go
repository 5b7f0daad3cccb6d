package drive

import (
	"fmt"
	"reflect"
	"strings"
	"testing"

	"fourwatch/api"
	"fourwatch/cluster"
)

// A lie's bytes are those of a message from the bad node, in the frame of that line.
func lie(phase, to, kind, from, frame int, vals ...int) api.Lie {
	return api.Lie{Phase: phase, To: to, Bytes: bytesOf(kind, from, frame, vals...)}
}

// next holds what the next frame is made of.
func next(t *testing.T, p *player, want api.Input) {
	t.Helper()
	if len(p.next.Lies) == 0 {
		p.next.Lies = nil
	}
	if !reflect.DeepEqual(p.next, want) {
		t.Errorf("the next frame is made of %v; want %v", p.next, want)
	}
}

func TestP14_2Tune(t *testing.T) {
	for line, want := range map[string]api.Tuning{
		"tune 1 2 3 4":              {Dt: one, Q: 2 * one, R: 3 * one, Gate: 4 * one},
		"tune 0 0 0 0":              {},
		"tune -1 -0.5 -0 0.25":      {Dt: -one, Q: -one / 2, Gate: one / 4},
		"tune 1.50 0.0 100 2000000": {Dt: 3 * one / 2, R: 100 * one, Gate: 2000000 * one},
		"tune -2147483648 2147483647.99999999976716935634613037109375 0.00000000023283064365386962890625 0." + strings.Repeat("3", 58): {Dt: low, Q: top, R: 1, Gate: 1431655765},
	} {
		p := behind(t, line)
		if !reflect.DeepEqual(p.four, cluster.Begin(want)) || p.told.String() != "" {
			t.Errorf("%q: %v", line, p.four)
		}
		next(t, p, api.Input{Bad: -1})
	}
}

// With 'tune' the cluster is a new one; readings, who is bad, and lies stay, in the frame in which they were told.
func TestP14_2TuneStays(t *testing.T) {
	p := behind(t, "read 0 1 2 3", "frame", "frame", "bad 2", "lie 0 1 1 5 6 7", "read 3 4 5 6", "tune 1 1 2 9")
	want := api.Input{Read: [4][3]int{{one, 2 * one, 3 * one}, {}, {}, {4 * one, 5 * one, 6 * one}}, Bad: 2}
	want.Lies = []api.Lie{lie(0, 1, 1, 2, 2, 5*one, 6*one, 7*one)}
	next(t, p, want)
	if !reflect.DeepEqual(p.four, cluster.Begin(api.Tuning{Dt: one, Q: one, R: 2 * one, Gate: 9 * one})) {
		t.Errorf("a new cluster: %v", p.four)
	}
	read := "read 0 1 1 1\nread 1 2 2 2\nread 2 3 3 3\n"
	lies := "bad 3\nlie 0 0 1 5 5 5\nlie 0 1 1 5 5 5\nlie 0 2 1 5 5 5\n"
	plain := checkPlay(t, "tune 1 1 2 9\n"+read+lies+"frame")
	if plain == checkPlay(t, "tune 1 1 2 9\n"+read+"bad 3\nframe") {
		t.Errorf("lies are not heard: %s", plain)
	}
	plays(t, read+lies+"tune 1 1 2 9\nframe", plain)
	plays(t, lies+"tune 5 5 5 5\n"+read+"tune 1 1 2 9\nframe", plain)
	// Told behind a frame, they are of frame 1, and not heard in frame 0.
	silent := checkPlay(t, "tune 1 1 2 9\n"+read+"bad 3\nframe")
	first := checkPlay(t, read+"frame")
	plays(t, read+"frame\n"+lies+"tune 1 1 2 9\nframe", first+silent)
	plays(t, read+"frame\ntune 1 1 2 9\n"+lies+"frame", first+plain)
}

func TestP14_2Read(t *testing.T) {
	p := begin()
	want := api.Input{Bad: -1}
	for i, node := range []int{2, 0, 3, 1, 0, 2} {
		if !p.play(fmt.Sprintf("read %d %d -%d.5 0.25", node, i, i)) {
			t.Fatalf("node %d can't be read", node)
		}
		want.Read[node] = [3]int{i * one, -i*one - one/2, one / 4}
		next(t, p, want)
	}
	if p.play("read 1 -2147483648 2147483647.9999999998 -0") {
		want.Read[1] = [3]int{low, top, 0}
	}
	next(t, p, want)
	if p.told.String() != "" || !reflect.DeepEqual(p.four, begin().four) {
		t.Errorf("'read' changes more than readings: %s", all(p))
	}
}

// Readings are those from now on: they stay until others are there.
func TestP14_2ReadStays(t *testing.T) {
	got := checkPlay(t, "read 0 1 0 0\nread 1 2 0 0\nread 2 3 0 0\nread 3 50 0 0\nframe\nframe\nread 0 2 0 0\nread 3 0 0 0\nframe")
	for frame, used := range []string{"2.5", "2.5", "2"} {
		for node := range 4 {
			if !strings.Contains(got, fmt.Sprintf("node %d frame %d %s>", node, frame, used)) {
				t.Errorf("frame %d: %s", frame, got)
			}
		}
	}
	want := four("frame 0 2.5>1.666666666977107524871826171875 0>0 0>0 43dfffeb")
	plays(t, "read 0 1 0 0\nread 1 2 0 0\nread 2 3 0 0\nread 3 50 0 0\nframe", want)
	plays(t, "read 3 50 0 0\nread 2 3 0 0\nread 0 9 9 9\nread 1 2 0 0\nread 0 1 0 0\nframe", want)
}

func TestP14_2Bad(t *testing.T) {
	p := begin()
	for _, node := range []int{0, 3, 1, 2, 2, 0} {
		if !p.play(fmt.Sprintf("bad %d", node)) {
			t.Fatalf("node %d can't be bad", node)
		}
		next(t, p, api.Input{Bad: node})
	}
	plays(t, "bad 0\nframe", few("frame 0 0>0 0>0 0>0 135deab1", 1, 2, 3))
	plays(t, "bad 0\nbad 1\nframe", few("frame 0 0>0 0>0 0>0 135deab1", 0, 2, 3))
	plays(t, "bad 2\nframe", few("frame 0 0>0 0>0 0>0 135deab1", 0, 1, 3))
	plays(t, "bad 3\nframe", few("frame 0 0>0 0>0 0>0 135deab1", 0, 1, 2))
	plays(t, "bad 3\ngood\nframe", four("frame 0 0>0 0>0 0>0 135deab1"))
}

// Lies stay while another node becomes bad: each has the name of the one that was bad when it was told.
func TestP14_2BadKeepsLies(t *testing.T) {
	p := behind(t, "bad 1", "lie 0 0 1 1 1 1", "bad 2", "lie 0 0 1 2 2 2", "bad 3")
	want := []api.Lie{lie(0, 0, 1, 1, 0, one, one, one), lie(0, 0, 1, 2, 0, 2*one, 2*one, 2*one)}
	next(t, p, api.Input{Bad: 3, Lies: want})
	read := "read 0 1 1 1\nread 2 2 2 2\nread 3 3 3 3\n"
	lies := "bad 1\nlie 0 0 1 5 5 5\nlie 0 2 1 5 5 5\nlie 0 3 1 5 5 5\n"
	heard, silent := checkPlay(t, read+lies+"frame"), checkPlay(t, read+"bad 1\nframe")
	if heard == silent {
		t.Errorf("lies are not heard: %s", heard)
	}
	plays(t, read+lies+"bad 2\nbad 1\nframe", heard)
	plays(t, read+lies+"bad 2\nframe", checkPlay(t, read+"bad 2\nframe"))
}

func TestP14_2Good(t *testing.T) {
	p := behind(t, "read 1 1 2 3", "frame", "bad 1", "lie 0 0 1 1 1 1", "lie 2 0 3 1", "good")
	want := api.Input{Read: [4][3]int{1: {one, 2 * one, 3 * one}}, Bad: -1}
	next(t, p, want)
	if p.four.Frame != 1 {
		t.Errorf("'good' changes the cluster: %v", p.four)
	}
	was := all(p)
	if !p.play("good") || all(p) != was {
		t.Errorf("'good' while none is bad: %s; want %s", all(p), was)
	}
	p.play("bad 1")
	want.Bad = 1
	next(t, p, want)
	read := "read 0 1 1 1\nread 2 2 2 2\nread 3 3 3 3\n"
	lies := "bad 1\nlie 0 0 1 5 5 5\nlie 0 2 1 5 5 5\nlie 0 3 1 5 5 5\n"
	plays(t, read+lies+"good\nbad 1\nframe", checkPlay(t, read+"bad 1\nframe"))
	plays(t, read+lies+"good\nframe", checkPlay(t, read+"frame"))
}

// In each phase, to each computer, from each, of each kind, with each number of Vals that a message may have.
func TestP14_2Lie(t *testing.T) {
	for frame := range 3 {
		for bad := range 4 {
			p := behind(t, strings.Fields(strings.Repeat("frame ", frame))...)
			if !p.play(fmt.Sprintf("bad %d", bad)) {
				t.Fatalf("%d can't be bad", bad)
			}
			want := api.Input{Bad: bad}
			for i := range 5 * 4 * 5 {
				phase, to, kind, size := i/20, i/5%4, 1+i%5, i%25
				line, vals := fmt.Sprintf("lie %d %d %d", phase, to, kind), []int(nil)
				for k := range size {
					line += fmt.Sprintf(" -%d.5", i+k)
					vals = append(vals, -(i+k)*one-one/2)
				}
				if !p.play(line) {
					t.Fatalf("%q can't be done", line)
				}
				want.Lies = append(want.Lies, lie(phase, to, kind, bad, frame, vals...))
			}
			next(t, p, want)
		}
	}
	p := behind(t, "bad 3", "lie 4 3 5 -2147483648 2147483647.9999999998 -0 0.50")
	next(t, p, api.Input{Bad: 3, Lies: []api.Lie{lie(4, 3, 5, 3, 0, low, top, 0, one/2)}})
	plays(t, "bad 0\nlie 0 1 1\nlie 0 0 1\nlie 4 3 5"+times("1", 24)+"\nlie 4 3 5"+times("1", 25), "wrong 5\n")
}

// The second of the document's examples of the whole.
func TestP14_2LieThreeTales(t *testing.T) {
	read := "read 0 4 4 4\nread 1 5 5 5\nread 2 6 6 6\nbad 3\n"
	place := "4.5>3.0000000004656612873077392578125"
	want := few(strings.Join([]string{"frame 0", place, place, place, "f8fb26d7"}, " "), 0, 1, 2)
	plays(t, read+"lie 0 0 1 9 9 9\nlie 0 1 1 -9 -9 -9\nframe", want)
	plays(t, read+"frame", want)
	if checkPlay(t, read+"lie 0 0 1 9 9 9\nlie 0 1 1 9 9 9\nframe") == want {
		t.Errorf("what is told to two alike is not taken for said")
	}
}

// Votes that are right keep the bad node in for a frame more: each lie counts, in its phase, for the next frame alone.
func TestP14_2LieVotes(t *testing.T) {
	vote := "lie 2 %d 3 0.07565180608071386814117431640625\n"
	votes := fmt.Sprintf(vote, 0) + fmt.Sprintf(vote, 2) + fmt.Sprintf(vote, 3)
	first := few("frame 0 0>0 0>0 0>0 135deab1", 0, 2, 3)
	second := "frame 1 0>0 0>0 0>0 602733b2"
	plays(t, "bad 1\n"+votes+"frame\nframe\nframe", first+few(second, 0, 2, 3)+few("frame 2 0>0 0>0 0>0 e5c14346 out1", 0, 2, 3))
	silent := checkPlay(t, "bad 1\nframe\nframe")
	if !strings.HasSuffix(silent, " out1\n") {
		t.Errorf("1 is silent: %s", silent)
	}
	for _, phase := range []string{"lie 0", "lie 1", "lie 3", "lie 4"} {
		plays(t, "bad 1\n"+strings.ReplaceAll(votes, "lie 2", phase)+"frame\nframe", silent)
	}
	plays(t, "bad 1\n"+strings.ReplaceAll(votes, " 3 0.0", " 2 0.0")+"frame\nframe", silent)
	plays(t, "bad 1\nframe\n"+votes+"frame", silent)
}

// A lie of the last phase: 1 has lost its way, and takes the state that 2 and the bad node tell alike.
func TestP14_2LieState(t *testing.T) {
	script := lines(lost()...) + "\n"
	for _, to := range []string{"0", "1", "2"} {
		script += "lie 2 " + to + " 3 0.136759736575186252593994140625\n"
	}
	axis := " 0.76899976911954581737518310546875 0.48048048070631921291351318359375 1.6006006007082760334014892578125 0 0"
	state := " 1 5 1.4558789557777345180511474609375 -0.22822822816669940948486328125" + axis + " 0 0" + axis + " 0 0" + axis + " 0.000000002793967723846435546875 0 0\n"
	end := "node 2 frame 6 1.5>1.4558789557777345180511474609375 0>0 0>0 2302afa4 out0 out1\n"
	own := "node 1 frame 6 1.5>1.48450000002048909664154052734375 0>0 0>0 90e246ce out0\n" + end
	taken := "node 1 frame 6 1.5>1.4558789557777345180511474609375 0>0 0>0 90e246ce out0 out1\n" + end
	for phase, want := range []string{own, own, own, own, taken} {
		if got := checkPlay(t, fmt.Sprint(script, "lie ", phase, state, "frame")); !strings.HasSuffix(got, want) {
			t.Errorf("a state in phase %d: %s", phase, got)
		}
	}
}

func TestP14_2Frame(t *testing.T) {
	p := behind(t, "read 2 1 2 3", "bad 1", "lie 0 0 1 1 1 1", "lie 2 0 3 1")
	want, reports, _ := cluster.Frame(p.four, p.next)
	if !p.play("frame") || !reflect.DeepEqual(p.four, want) {
		t.Errorf("a frame: %v; want %v", p.four, want)
	}
	told := toldReport(reports[0]) + toldReport(reports[1]) + toldReport(reports[2])
	if len(reports) != 3 || p.told.String() != told {
		t.Errorf("a frame tells %q; want %q", p.told.String(), told)
	}
	next(t, p, api.Input{Read: [4][3]int{2: {one, 2 * one, 3 * one}}, Bad: 1})
}

// The third of the document's examples of the whole.
func TestP14_2LostAndFound(t *testing.T) {
	got := checkPlay(t, "read 0 1 1 1\nread 1 1 1 1\nread 2 1 1 1\nread 3 1 1 1\nframe\nbad 2\nframe\nframe\ngood\nframe\nframe\nframe\nframe")
	l := strings.Split(got, "\n")
	if len(l) != 4+3+3+4*4+1 {
		t.Fatalf("%d lines are told", len(l))
	}
	for i, line := range l[:len(l)-1] {
		if out := i >= 7 && i < 22; strings.HasSuffix(line, " out2") != out || strings.Contains(line, "weak") {
			t.Errorf("line %d: %s", i, line)
		}
	}
	place := " 1>1.056277056224644184112548828125"
	if want := "node 2 frame 3" + place + place + place + " e0c6fe33 out2"; l[12] != want {
		t.Errorf("2 is good again: %q; want %q", l[12], want)
	}
}
