package filter

import (
	"math/rand"
	"slices"
	"testing"

	"fourwatch/api"
)

func TestP4_1Begin(t *testing.T) {
	for _, x := range []int{0, 1, -1, 3 * one, -half, top, low} {
		want := api.State{X: x, V: 0, P00: one, P01: 0, P11: one, Bent: false, Missed: 0}
		if got := Begin(x); got != want {
			t.Errorf("Begin(%d) = %+v, want %+v", x, got, want)
		}
	}
}

func TestP4_1BentStaysTrue(t *testing.T) {
	s := Begin(one)
	s.Bent = true
	if p := Predict(s, one, one); !p.Bent {
		t.Errorf("Predict of a bent state: %+v", p)
	}
	if u, taken := Update(s, one, one, one); !taken || !u.Bent {
		t.Errorf("Update of a bent state: %+v, %v", u, taken)
	}
	if u, taken := Update(s, 9*one, one, one); taken || !u.Bent {
		t.Errorf("passed over by the gate, of a bent state: %+v, %v", u, taken)
	}
	if u, taken := Update(s, one, -one, one); taken || !u.Bent {
		t.Errorf("passed over with w of 0, of a bent state: %+v, %v", u, taken)
	}
	tuning := api.Tuning{Dt: one, Q: one, R: one, Gate: one}
	if u, taken := Step(s, tuning, one); !taken || !u.Bent {
		t.Errorf("Step of a bent state: %+v, %v", u, taken)
	}
	if u, n := Run(s, tuning, []int{one, one, 99 * one, one}); n != 3 || !u.Bent {
		t.Errorf("Run of a bent state: %+v, %d", u, n)
	}
	if u, n := Run(s, tuning, nil); n != 0 || !u.Bent {
		t.Errorf("Run of a bent state without readings: %+v, %d", u, n)
	}
}

func TestP4_1BentOnceInARun(t *testing.T) {
	s := Begin(0)
	s.V = top
	s.X = top
	tuning := api.Tuning{Dt: 1, Q: 0, R: one, Gate: top}
	first, _ := Step(s, tuning, top)
	if !first.Bent {
		t.Fatalf("the place goes beyond the end, and Bent is false: %+v", first)
	}
	back := api.Tuning{Dt: 0, Q: 0, R: one, Gate: top}
	if u, _ := Run(first, back, []int{top, top, top, top}); !u.Bent {
		t.Errorf("Bent is lost in a run: %+v", u)
	}
}

func TestP4_2Predict(t *testing.T) {
	for _, c := range []struct {
		s     api.State
		dt, q int
		want  api.State
	}{
		{ // ordinary numbers
			api.State{X: one, V: 2 * one, P00: one, P01: one, P11: 3 * one}, 2 * one, one,
			api.State{X: 5 * one, V: 2 * one, P00: 17 * one, P01: 7 * one, P11: 4 * one},
		},
		{ // no time goes by: only P11 grows
			api.State{X: one, V: 2 * one, P00: 3 * one, P01: 4 * one, P11: 5 * one, Missed: 6}, 0, 7 * one,
			api.State{X: one, V: 2 * one, P00: 3 * one, P01: 4 * one, P11: 12 * one, Missed: 6},
		},
		{ // back in time, and surer by q
			api.State{X: one, V: 2 * one, P00: one, P01: one, P11: 3 * one}, -2 * one, -one,
			api.State{X: -3 * one, V: 2 * one, P00: 9 * one, P01: -5 * one, P11: 2 * one},
		},
		{ // numbers below 0 are as good as others
			api.State{X: -one, V: -2 * one, P00: -one, P01: -one, P11: -3 * one}, one, -5 * one,
			api.State{X: -3 * one, V: -2 * one, P00: -6 * one, P01: -4 * one, P11: -8 * one},
		},
		{ // a state that was bent and has missed some
			api.State{X: 1, V: 1, Bent: true, Missed: 3}, one, 0,
			api.State{X: 2, V: 1, Bent: true, Missed: 3},
		},
		{ // q is added to P11 alone
			api.State{}, one, one,
			api.State{P11: one},
		},
		{ // halves go up step by step: u is 1, u times dt is 1; dt times dt times P11 would be 0
			api.State{P11: 1}, half, 0,
			api.State{P00: 1, P01: 1, P11: 1},
		},
		{ // t is 1, added twice; twice P01, times dt, would be 1
			api.State{P01: 1}, half, 0,
			api.State{P00: 2, P01: 1},
		},
		{ // P00 plus t stops nowhere, t plus t would
			api.State{P00: -1 << 62, P01: 1 << 62}, one, 0,
			api.State{P00: 1 << 62, P01: 1 << 62},
		},
		{ // u times dt comes last: P00 plus it would stop
			api.State{P00: 1 << 62, P01: -1 << 62, P11: 1 << 62}, one, 0,
			api.State{P00: 0, P01: 0, P11: 1 << 62},
		},
		{ // all numbers are the old ones: the new P11 would make P01 another
			api.State{P11: one}, one, 4 * one,
			api.State{P00: one, P01: one, P11: 5 * one},
		},
		{ // the greatest numbers
			api.State{X: top, V: top, P00: top, P01: top, P11: top}, top, top,
			api.State{X: top, V: top, P00: top, P01: top, P11: top, Bent: true},
		},
		{ // the least numbers: t and u are top
			api.State{X: low, V: low, P00: low, P01: low, P11: low}, low, low,
			api.State{X: -1, V: low, P00: -2, P01: -1, P11: low, Bent: true},
		},
	} {
		if got := Predict(c.s, c.dt, c.q); got != c.want {
			t.Errorf("Predict(%+v, %d, %d)\n got %+v\nwant %+v", c.s, c.dt, c.q, got, c.want)
		}
	}
}

// Each step of Predict stops in a case where no other one does, but for the sum of P00 and t: where that stops, one more t stops too.
func TestP4_2EachStepStops(t *testing.T) {
	for _, c := range []struct {
		steps stops
		s     api.State
		dt, q int
	}{
		{stops{"P01*dt"}, api.State{P00: low, P01: low}, -one, 0},
		{stops{"P11*dt"}, api.State{P11: low}, -one, 0},
		{stops{"V*dt"}, api.State{X: low, V: top}, 2 * one, 0},
		{stops{"V*dt"}, api.State{X: top, V: top}, -2 * one, 0},
		{stops{"X+"}, api.State{X: top, V: 1}, one, 0},
		{stops{"X+"}, api.State{X: low, V: -1}, one, 0},
		{stops{"P00+t", "P00+t+t"}, api.State{P00: top, P01: 1}, one, 0},
		{stops{"P00+t", "P00+t+t"}, api.State{P00: low, P01: 1 << 40}, -one, 0},
		{stops{"P00+t+t"}, api.State{P00: top - 1, P01: 1}, one, 0},
		{stops{"P00+t+t"}, api.State{P00: low + 1, P01: -1}, one, 0},
		{stops{"u*dt"}, api.State{P00: low, P11: one}, 1 << 50, 0},
		{stops{"u*dt"}, api.State{P00: top, P11: -one}, 1 << 50, 0},
		{stops{"P00+t+t+"}, api.State{P00: top, P11: 1}, one, 0},
		{stops{"P00+t+t+"}, api.State{P00: low, P11: -1}, one, 0},
		{stops{"P01+u"}, api.State{P00: low, P01: 1 << 62, P11: 1 << 62}, one, 0},
		{stops{"P01+u"}, api.State{P00: top, P01: -1<<62 - 1, P11: -1 << 62}, one, 0},
		{stops{"P11+q"}, api.State{P11: top}, 0, 1},
		{stops{"P11+q"}, api.State{P11: low}, 0, -1},
	} {
		want, steps := toldPredict(c.s, c.dt, c.q)
		if !slices.Equal(steps, c.steps) {
			t.Errorf("the case of %v stops at %v", c.steps, steps)
		}
		if got := Predict(c.s, c.dt, c.q); got != want || !got.Bent {
			t.Errorf("%v: Predict(%+v, %d, %d)\n got %+v\nwant %+v", c.steps, c.s, c.dt, c.q, got, want)
		}
	}
}

// A result that lies just at an end has not stopped.
func TestP4_2AtTheEndsNotBent(t *testing.T) {
	s := api.State{X: top - 1, V: 1, P00: top, P01: top, P11: top}
	if got := Predict(s, 0, 0); got != s {
		t.Errorf("no time: %+v", got)
	}
	got := Predict(api.State{X: top - 1, V: 1, P00: top - 4, P01: 1, P11: 2}, one, top-2)
	want := api.State{X: top, V: 1, P00: top, P01: 3, P11: top}
	if got != want {
		t.Errorf("to the upper end: %+v", got)
	}
	got = Predict(api.State{X: low + 1, V: -1, P00: low + 4, P01: -1, P11: -2}, one, low+2)
	want = api.State{X: low, V: -1, P00: low, P01: -3, P11: low}
	if got != want {
		t.Errorf("to the lower end: %+v", got)
	}
}

func TestP4_2PredictAsTold(t *testing.T) {
	r := rand.New(rand.NewSource(42))
	for i := range 60000 {
		s, dt, q := anyState(r), anyNumber(r), anyNumber(r)
		if i%2 == 0 {
			s, dt, q = mildState(r), mild(r), mild(r)
		}
		want, _ := toldPredict(s, dt, q)
		if got := Predict(s, dt, q); got != want {
			t.Fatalf("Predict(%+v, %d, %d)\n got %+v\nwant %+v", s, dt, q, got, want)
		}
	}
}

func TestP4_3UpdateTaken(t *testing.T) {
	for _, c := range []struct {
		s          api.State
		z, r, gate int
		want       api.State
	}{
		{ // ordinary numbers, and Missed goes to 0
			api.State{P00: 3 * one, P01: one, P11: 2 * one, Missed: 4}, 4 * one, one, 100 * one,
			api.State{X: 3 * one, V: one, P00: 3 * one / 4, P01: one / 4, P11: 7 * one / 4},
		},
		{ // the reading lies behind: y is below 0
			api.State{X: one, V: one, P00: 3 * one, P01: one, P11: 2 * one}, -3 * one, one, 100 * one,
			api.State{X: -2 * one, V: 0, P00: 3 * one / 4, P01: one / 4, P11: 7 * one / 4},
		},
		{ // the reading is just as foreseen, and the gate is 0
			api.State{X: 5, V: 6, P00: one, P01: 2 * one, P11: 3 * one, Missed: 1}, 5, one, 0,
			api.State{X: 5, V: 6, P00: half, P01: one, P11: one},
		},
		{ // r below 0: k is 2
			api.State{P00: 2 * one, P01: one, P11: one, Missed: -7}, one, -one, one,
			api.State{X: 2 * one, V: one, P00: -2 * one, P01: -one, P11: 0},
		},
		{ // P00 below 0, r above
			api.State{P00: -one, P01: one, P11: one}, one, 2 * one, one,
			api.State{X: -one, V: one, P00: -2 * one, P01: 2 * one, P11: 0},
		},
		{ // nothing is known, but r is: nothing changes
			api.State{X: one, V: one, P11: one, Missed: 2}, 2 * one, one, one,
			api.State{X: one, V: one, P11: one},
		},
		{ // a w of the least number above 0
			api.State{P00: 1, Missed: 2}, 0, 0, 0,
			api.State{},
		},
		{ // P11 comes from the old P01: with the new one, a quarter, it would be 2 less a sixteenth
			api.State{P00: 3 * one, P01: one, P11: 2 * one, Missed: 1}, 0, one, one,
			api.State{P00: 3 * one / 4, P01: one / 4, P11: 7 * one / 4},
		},
		{ // k and l are rounded ahead of what comes: 1 of 3, times 3, is not 1
			api.State{P00: one, P01: one, P11: one}, 3 * one, 2 * one, 100 * one,
			api.State{X: one - 1, V: one - 1, P00: one - one/3, P01: one - one/3, P11: one - one/3},
		},
		{ // bent before
			api.State{P00: one, Bent: true, Missed: 2}, 0, one, one,
			api.State{P00: half, Bent: true},
		},
	} {
		got, taken := Update(c.s, c.z, c.r, c.gate)
		if !taken || got != c.want {
			t.Errorf("Update(%+v, %d, %d, %d)\n got %+v, %v\nwant %+v", c.s, c.z, c.r, c.gate, got, taken, c.want)
		}
	}
}

func TestP4_3PassedOver(t *testing.T) {
	full := api.State{X: one, V: 2 * one, P00: 3 * one, P01: 4 * one, P11: 5 * one, Missed: 6}
	empty := api.State{P01: 1, P11: 2}
	for _, c := range []struct {
		name       string
		s          api.State
		z, r, gate int
	}{
		{"w of 0", full, one, -3 * one, top},
		{"w of 0, nothing known", empty, 0, 0, top},
		{"w just below 0", full, one, -3*one - 1, top},
		{"w far below 0", full, one, low, top},
		{"w that stops below 0", api.State{P00: -1}, 0, low, top},
		{"w and gate below 0, though their product is above", full, one, -9 * one, -9 * one},
		{"y above the gate", full, 4 * one, one, 2 * one},
		{"y below the gate", full, -2 * one, one, 2 * one},
		{"gate of 0", full, 2 * one, one, 0},
		{"gate below 0", full, one, one, -1},
		{"the least gate", full, one, one, low},
		{"y times y stops, gate times w lies just below", api.State{P00: top - 1}, 1 << 50, 0, one},
		{"y stops", api.State{X: low, P00: one}, top, one, one},
		{"gate times w stops below 0", full, one, one, low},
		{"Missed below 0", api.State{P00: one, Missed: -1}, 9 * one, one, one},
	} {
		for _, bent := range []bool{false, true} {
			s := c.s
			s.Bent = bent
			want := s
			want.Missed++
			if got, taken := Update(s, c.z, c.r, c.gate); taken || got != want {
				t.Errorf("%s: %+v, %v; want %+v", c.name, got, taken, want)
			}
		}
	}
}

// Just at the gate a reading is taken; just above it, it is passed over.
func TestP4_3AtTheGate(t *testing.T) {
	for _, c := range []struct {
		name        string
		s           api.State
		z, r        int
		gate        int
		taken, bent bool
	}{
		{"at", api.State{P00: 3 * one}, 4 * one, one, 4 * one, true, false},
		{"the gate a bit less", api.State{P00: 3 * one}, 4 * one, one, 4*one - 1, false, false},
		{"the gate a bit more", api.State{P00: 3 * one}, 4 * one, one, 4*one + 1, true, false},
		{"y a bit more", api.State{P00: 3 * one}, 4*one + 1, one, 4 * one, false, false},
		{"y a bit less", api.State{P00: 3 * one}, 4*one - 1, one, 4 * one, true, false},
		{"y below 0, at", api.State{X: 4 * one, P00: 3 * one}, 0, one, 4 * one, true, false},
		{"y below 0, a bit more", api.State{X: 4*one + 1, P00: 3 * one}, 0, one, 4 * one, false, false},
		{"w a bit less", api.State{P00: 3*one - 1}, 4 * one, one, 4 * one, false, false},
		{"y times y is rounded down to the gate", api.State{P00: one}, one + 1, 0, one + 2, true, false},
		{"y times y is rounded up above the gate", api.State{P00: one}, 46341, 0, 0, false, false},
		{"y times y is rounded up to the gate", api.State{P00: one}, 81000, 0, 2, true, false},
		{"y times y is rounded down to 0", api.State{P00: one}, 46340, 0, 0, true, false},
		{"gate times w is rounded up to y times y", api.State{P00: half}, 1 << 16, 0, 1, true, false},
		{"gate times w is rounded down below y times y", api.State{P00: half - 1}, 1 << 16, 0, 1, false, false},
		{"gate times w below 0 is rounded up to 0", api.State{P00: 1}, 0, 0, -1, true, false},
		{"both lie at the end, one has stopped", api.State{P00: top}, 1 << 50, 0, one, true, true},
		{"both have stopped, y too", api.State{X: low, P00: 2 * one}, top, one, top, true, true},
	} {
		got, taken := Update(c.s, c.z, c.r, c.gate)
		if taken != c.taken || got.Bent != c.bent {
			t.Errorf("%s: %+v, %v", c.name, got, taken)
		}
		want, _, _ := toldUpdate(c.s, c.z, c.r, c.gate)
		if got != want {
			t.Errorf("%s: %+v, want %+v", c.name, got, want)
		}
	}
}

// Each step of Update stops in a case where no other one does. Four of them can't: a y that stops has a square that does; and where k times y, l times y or k times P01 stops while y is within the gate, so does k times P00 or l times P01.
func TestP4_3EachStepStops(t *testing.T) {
	const large = 1 << 60
	for _, c := range []struct {
		steps      stops
		s          api.State
		z, r, gate int
	}{
		{stops{"z-X", "y*y"}, api.State{X: low, P00: 1, P01: 0}, 0, top - 1, one},
		{stops{"z-X", "y*y"}, api.State{X: 1, P00: 0}, low, top, one},
		{stops{"P00+r"}, api.State{P00: top}, 0, 1, one},
		{stops{"y*y"}, api.State{P00: 0}, 1 << 50, top, one},
		{stops{"gate*w"}, api.State{P00: one}, one, one, top},
		{stops{"P00/w"}, api.State{P00: half}, 0, 1 - half, one},
		{stops{"P00/w"}, api.State{P00: -half - 1}, 0, half + 2, one},
		{stops{"P01/w"}, api.State{P00: 1, P01: half}, 0, 0, one},
		{stops{"P01/w"}, api.State{P00: 1, P01: -half - 1}, 0, 0, one},
		{stops{"k*y", "k*P00"}, api.State{X: low, P00: 1 << 48}, low + 1<<47, one - 1<<48, top},
		{stops{"X+"}, api.State{X: top - one, P00: 4 * one}, top, -3 * one, one},
		{stops{"X+"}, api.State{X: low + one, P00: 4 * one}, low, -3 * one, one},
		{stops{"l*y", "l*P01"}, api.State{V: low, P00: one, P01: 1 << 48}, 1 << 47, 0, top},
		{stops{"V+"}, api.State{V: top, P00: one, P01: one}, 1, 0, one},
		{stops{"V+"}, api.State{V: low, P00: one, P01: -one}, 1, 0, one},
		{stops{"k*P00"}, api.State{P00: 1 << 50}, 0, one - 1<<50, one},
		{stops{"P00-"}, api.State{P00: -4*large - 10}, 0, top, one},
		{stops{"k*P01", "l*P01"}, api.State{P00: 1 << 40, P01: 1 << 60, P11: 0}, 0, one - 1<<40, one},
		{stops{"P01-"}, api.State{P00: -large * 7 / 10 * 4, P01: 5 * large}, 0, large*7/10*4 + 4*large, one},
		{stops{"P01-"}, api.State{P00: -large * 7 / 10 * 4, P01: -5 * large}, 0, large*7/10*4 + 4*large, one},
		{stops{"l*P01"}, api.State{P00: one, P01: 1 << 50}, 0, 0, one},
		{stops{"P11-"}, api.State{P00: one, P01: one, P11: low}, 0, 0, one},
	} {
		want, taken, steps := toldUpdate(c.s, c.z, c.r, c.gate)
		if !taken || !slices.Equal(steps, c.steps) {
			t.Errorf("the case of %v stops at %v, taken: %v", c.steps, steps, taken)
		}
		if got, taken := Update(c.s, c.z, c.r, c.gate); !taken || got != want || !got.Bent {
			t.Errorf("%v: Update(%+v, %d, %d, %d)\n got %+v, %v\nwant %+v", c.steps, c.s, c.z, c.r, c.gate, got, taken, want)
		}
	}
}

// A result that lies just at an end has not stopped.
func TestP4_3AtTheEndsNotBent(t *testing.T) {
	got, taken := Update(api.State{X: top - one, V: top - one, P00: one, P01: one, P11: low + one}, top, 0, one)
	want := api.State{X: top, V: top, P00: 0, P01: 0, P11: low}
	if !taken || got != want {
		t.Errorf("to the ends: %+v, %v", got, taken)
	}
	got, taken = Update(api.State{X: low + one, V: low + one, P00: one, P01: one, P11: one}, low, 0, one)
	want = api.State{X: low, V: low}
	if !taken || got != want {
		t.Errorf("to the lower end: %+v, %v", got, taken)
	}
	got, taken = Update(api.State{P00: top, Missed: 1}, 0, 0, one)
	if !taken || got != (api.State{}) {
		t.Errorf("the greatest P00: %+v, %v", got, taken)
	}
}

func TestP4_3UpdateAsTold(t *testing.T) {
	r := rand.New(rand.NewSource(43))
	var passed, bent, clean int
	for i := range 120000 {
		s, z, noise, gate := anyState(r), anyNumber(r), anyNumber(r), anyNumber(r)
		switch i % 3 {
		case 0:
			s, z, noise, gate = mildState(r), mild(r), r.Intn(9*one), r.Intn(64*one)
		case 1:
			z, gate = s.X+int(r.Uint64())>>(16+r.Intn(48)), top>>r.Intn(8)
		}
		want, taken, steps := toldUpdate(s, z, noise, gate)
		if got, ok := Update(s, z, noise, gate); got != want || ok != taken {
			t.Fatalf("Update(%+v, %d, %d, %d)\n got %+v, %v\nwant %+v, %v", s, z, noise, gate, got, ok, want, taken)
		}
		switch {
		case !taken:
			passed++
		case len(steps) > 0:
			bent++
		default:
			clean++
		}
	}
	if passed < 10000 || bent < 10000 || clean < 10000 {
		t.Errorf("too few of a kind: %d passed over, %d bent, %d clean", passed, bent, clean)
	}
}

// Step takes each number of the tuning for what it is named, and the state that is passed on is the predicted one.
func TestP4_4Step(t *testing.T) {
	s := api.State{X: one, V: 2 * one, P00: one, P01: 0, P11: one, Missed: 2}
	tuning := api.Tuning{Dt: one, Q: 3 * one, R: 2 * one, Gate: one}
	// Predicted: X 3, P00 2, P01 1, P11 4; w is 4, k a half, l a quarter.
	got, taken := Step(s, tuning, 5*one)
	want := api.State{X: 4 * one, V: 2*one + half, P00: one, P01: half, P11: 4*one - one/4}
	if !taken || got != want {
		t.Errorf("taken: %+v, %v", got, taken)
	}
	got, taken = Step(s, tuning, 5*one+1)
	want = api.State{X: 3 * one, V: 2 * one, P00: 2 * one, P01: one, P11: 4 * one, Missed: 3}
	if taken || got != want {
		t.Errorf("passed over: %+v, %v", got, taken)
	}
	tuning.R = -2 * one
	if got, taken = Step(s, tuning, 3*one); taken || got != want {
		t.Errorf("w of 0: %+v, %v", got, taken)
	}
}

// What bends in Predict stays bent where the reading is passed over; what bends in Update does not.
func TestP4_4StepBent(t *testing.T) {
	s := api.State{X: top, V: 1, P00: one}
	got, taken := Step(s, api.Tuning{Dt: one, R: one, Gate: one}, 0)
	if want := (api.State{X: top, V: 1, P00: one, Bent: true, Missed: 1}); taken || got != want {
		t.Errorf("bent by Predict: %+v, %v", got, taken)
	}
	s = api.State{X: top, P00: one}
	got, taken = Step(s, api.Tuning{Dt: one, R: one, Gate: one}, low)
	if want := (api.State{X: top, P00: one, Missed: 1}); taken || got != want {
		t.Errorf("bent by what is passed over: %+v, %v", got, taken)
	}
}

func TestP4_4StepAsTold(t *testing.T) {
	r := rand.New(rand.NewSource(44))
	for i := range 60000 {
		s, z := anyState(r), anyNumber(r)
		tuning := api.Tuning{Dt: anyNumber(r), Q: anyNumber(r), R: anyNumber(r), Gate: anyNumber(r)}
		if i%2 == 0 {
			s, z, tuning = mildState(r), mild(r), mildTuning(r)
		}
		want, taken := toldStep(s, tuning, z)
		if got, ok := Step(s, tuning, z); got != want || ok != taken {
			t.Fatalf("Step(%+v, %+v, %d)\n got %+v, %v\nwant %+v, %v", s, tuning, z, got, ok, want, taken)
		}
	}
}

func mildTuning(r *rand.Rand) api.Tuning {
	return api.Tuning{Dt: r.Intn(one), Q: r.Intn(one), R: r.Intn(9 * one), Gate: r.Intn(9 * one)}
}

func TestP4_4RunOfNothing(t *testing.T) {
	s := api.State{X: 1, V: 2, P00: 3, P01: 4, P11: 5, Missed: 6}
	tuning := api.Tuning{Dt: one, Q: one, R: one, Gate: one}
	for _, l := range [][]int{nil, {}} {
		if got, n := Run(s, tuning, l); got != s || n != 0 {
			t.Errorf("Run of %v: %+v, %d", l, got, n)
		}
	}
}

func TestP4_4Run(t *testing.T) {
	tuning := api.Tuning{R: one, Gate: one}
	for _, c := range []struct {
		l         []int
		n, missed int
	}{
		{[]int{0, 9 * one, 0}, 2, 0},
		{[]int{0}, 1, 0},
		{[]int{9 * one}, 0, 1},
		{[]int{9 * one, -9 * one, top, low}, 0, 4},
		{[]int{0, 0, 9 * one, 9 * one}, 2, 2},
		{[]int{9 * one, 0, 9 * one, 9 * one, 9 * one}, 1, 3},
	} {
		got, n := Run(Begin(0), tuning, c.l)
		if n != c.n || got.Missed != c.missed || got.X != 0 || got.Bent {
			t.Errorf("Run of %v: %+v, %d", c.l, got, n)
		}
	}
}

// A thing that moves evenly is followed, over many readings of which each tenth is far off and passed over.
func TestP4_4RunOfMany(t *testing.T) {
	tuning := api.Tuning{Dt: one / 8, Q: one / 64, R: one / 4, Gate: 9 * one}
	l := make([]int, 4000)
	for i := range l {
		l[i] = i * one / 16
		if i%10 == 7 {
			l[i] += 1000 * one
		}
	}
	got, n := Run(Begin(0), tuning, l)
	if n != 3600 {
		t.Errorf("%d readings were taken", n)
	}
	if off := got.X - l[len(l)-1]; off < -one/8 || off > one/8 || got.Bent || got.Missed != 0 {
		t.Errorf("at the end: %+v, the last reading %d", got, l[len(l)-1])
	}
	if off := got.V - half; off < -one/8 || off > one/8 {
		t.Errorf("the speed at the end: %+v", got)
	}
	if want, m := toldRun(Begin(0), tuning, l); got != want || n != m {
		t.Errorf("Run: %+v, %d; want %+v, %d", got, n, want, m)
	}
}

func toldRun(s api.State, t api.Tuning, l []int) (api.State, int) {
	n := 0
	for i := range l {
		var taken bool
		if s, taken = toldStep(s, t, l[i]); taken {
			n = n + 1
		}
	}
	return s, n
}

func TestP4_4RunAsTold(t *testing.T) {
	r := rand.New(rand.NewSource(45))
	for i := range 4000 {
		s := anyState(r)
		tuning := api.Tuning{Dt: anyNumber(r), Q: anyNumber(r), R: anyNumber(r), Gate: anyNumber(r)}
		l := make([]int, r.Intn(20))
		for k := range l {
			l[k] = anyNumber(r)
		}
		if i%2 == 0 {
			s, tuning = mildState(r), mildTuning(r)
			for k := range l {
				l[k] = mild(r)
			}
		}
		want, m := toldRun(s, tuning, l)
		if got, n := Run(s, tuning, l); got != want || n != m {
			t.Fatalf("Run(%+v, %+v, %v)\n got %+v, %d\nwant %+v, %d", s, tuning, l, got, n, want, m)
		}
	}
}

func TestP4_4RunLeavesTheList(t *testing.T) {
	whole := []int{0, 9 * one, one, low, top, 77, 78, 79}
	was := slices.Clone(whole)
	Run(Begin(0), api.Tuning{Dt: one, Q: one, R: one, Gate: one}, whole[:5])
	if !slices.Equal(whole, was) {
		t.Errorf("the list or its spare room is changed: %v", whole)
	}
}

// The same arguments have the same answer, whatever was asked between.
func TestP4_4RunKeepsNothing(t *testing.T) {
	tuning := api.Tuning{Dt: one, Q: one, R: one, Gate: 4 * one}
	l := []int{0, one, 99 * one, 3 * one}
	first, n := Run(Begin(0), tuning, l)
	Run(api.State{X: top, V: top, Bent: true, Missed: 9}, api.Tuning{Dt: top}, []int{low, top})
	again, m := Run(Begin(0), tuning, l)
	if first != again || n != m {
		t.Errorf("first %+v, %d; then %+v, %d", first, n, again, m)
	}
}
