package filter

import (
	"fourwatch/api"
	"fourwatch/fix"
)

// A hand works on a state in its place, and bends it where a result of its steps stops at an end.
type hand struct{ *api.State }

func (h hand) add(a, b int) int { return h.note(fix.Add(a, b)) }

func (h hand) sub(a, b int) int { return h.note(fix.Sub(a, b)) }

func (h hand) mul(a, b int) int { return h.note(fix.Mul(a, b)) }

func (h hand) div(a, b int) int { return h.note(fix.Div(a, b)) }

func (h hand) note(n int, bent bool) int {
	h.Bent = h.Bent || bent
	return n
}

func (h hand) predict(dt, q int) {
	old := *h.State
	t := h.mul(old.P01, dt)
	u := h.mul(old.P11, dt)
	h.X = h.add(old.X, h.mul(old.V, dt))
	h.P00 = h.add(h.add(h.add(old.P00, t), t), h.mul(u, dt))
	h.P01 = h.add(old.P01, u)
	h.P11 = h.add(old.P11, q)
}

func (h hand) update(z, r, gate int) bool {
	old := *h.State
	y := h.sub(z, old.X)
	w := h.add(old.P00, r)
	if w <= 0 || h.mul(y, y) > h.mul(gate, w) {
		// The steps so far may have bent the state, and a reading that is passed over must not.
		*h.State = old
		h.Missed++
		return false
	}
	h.take(y, w)
	return true
}

// take moves the state towards a reading that is y off, where w is how unsure the two are together.
func (h hand) take(y, w int) {
	old := *h.State
	k := h.div(old.P00, w)
	l := h.div(old.P01, w)
	h.X = h.add(old.X, h.mul(k, y))
	h.V = h.add(old.V, h.mul(l, y))
	h.P00 = h.sub(old.P00, h.mul(k, old.P00))
	h.P01 = h.sub(old.P01, h.mul(k, old.P01))
	h.P11 = h.sub(old.P11, h.mul(l, old.P01))
	h.Missed = 0
}
