package filter

import (
	"math/rand"

	"fourwatch/api"
	"fourwatch/fix"
)

const (
	one  = api.One
	half = api.One / 2
	top  = api.MaxFix
	low  = api.MinFix
)

// stops are the names of the steps that stopped at an end, in their order; the told.. functions below follow the chapter's words step by step and note them.
type stops []string

func (l *stops) of(name string) func(n int, bent bool) int {
	return func(n int, bent bool) int {
		if bent {
			*l = append(*l, name)
		}
		return n
	}
}

func toldPredict(s api.State, dt, q int) (api.State, stops) {
	var l stops
	t := l.of("P01*dt")(fix.Mul(s.P01, dt))
	u := l.of("P11*dt")(fix.Mul(s.P11, dt))
	way := l.of("V*dt")(fix.Mul(s.V, dt))
	x := l.of("X+")(fix.Add(s.X, way))
	p00 := l.of("P00+t")(fix.Add(s.P00, t))
	p00 = l.of("P00+t+t")(fix.Add(p00, t))
	square := l.of("u*dt")(fix.Mul(u, dt))
	p00 = l.of("P00+t+t+")(fix.Add(p00, square))
	p01 := l.of("P01+u")(fix.Add(s.P01, u))
	p11 := l.of("P11+q")(fix.Add(s.P11, q))
	bent := s.Bent || len(l) > 0
	return api.State{X: x, V: s.V, P00: p00, P01: p01, P11: p11, Bent: bent, Missed: s.Missed}, l
}

func toldUpdate(s api.State, z, r, gate int) (api.State, bool, stops) {
	passed := s
	passed.Missed = s.Missed + 1
	var n stops
	y := n.of("z-X")(fix.Sub(z, s.X))
	w := n.of("P00+r")(fix.Add(s.P00, r))
	if w <= 0 {
		return passed, false, n
	}
	square := n.of("y*y")(fix.Mul(y, y))
	bound := n.of("gate*w")(fix.Mul(gate, w))
	if square > bound {
		return passed, false, n
	}
	k := n.of("P00/w")(fix.Div(s.P00, w))
	l := n.of("P01/w")(fix.Div(s.P01, w))
	move := n.of("k*y")(fix.Mul(k, y))
	x := n.of("X+")(fix.Add(s.X, move))
	push := n.of("l*y")(fix.Mul(l, y))
	v := n.of("V+")(fix.Add(s.V, push))
	less := n.of("k*P00")(fix.Mul(k, s.P00))
	p00 := n.of("P00-")(fix.Sub(s.P00, less))
	less = n.of("k*P01")(fix.Mul(k, s.P01))
	p01 := n.of("P01-")(fix.Sub(s.P01, less))
	less = n.of("l*P01")(fix.Mul(l, s.P01))
	p11 := n.of("P11-")(fix.Sub(s.P11, less))
	bent := s.Bent || len(n) > 0
	return api.State{X: x, V: v, P00: p00, P01: p01, P11: p11, Bent: bent}, true, n
}

func toldStep(s api.State, t api.Tuning, z int) (api.State, bool) {
	s, _ = toldPredict(s, t.Dt, t.Q)
	s, taken, _ := toldUpdate(s, z, t.R, t.Gate)
	return s, taken
}

// anyNumber is a number of any length, the same one in each run; ends and noughts are among them.
func anyNumber(r *rand.Rand) int {
	switch r.Intn(12) {
	case 0:
		return 0
	case 1:
		return top - r.Intn(3)
	case 2:
		return low + r.Intn(3)
	case 3:
		return one * (r.Intn(9) - 4)
	}
	return int(r.Uint64()) >> r.Intn(64)
}

func anyState(r *rand.Rand) api.State {
	return api.State{
		X: anyNumber(r), V: anyNumber(r),
		P00: anyNumber(r), P01: anyNumber(r), P11: anyNumber(r),
		Bent: r.Intn(4) == 0, Missed: r.Intn(5) - 1,
	}
}

// mild is a number from -9 to 9, mostly not whole, so that few steps stop and most results are rounded.
func mild(r *rand.Rand) int { return r.Intn(18*one+1) - 9*one }

func mildState(r *rand.Rand) api.State {
	return api.State{
		X: mild(r), V: mild(r),
		P00: r.Intn(4 * one), P01: mild(r) / 8, P11: r.Intn(4 * one),
		Missed: r.Intn(5),
	}
}
