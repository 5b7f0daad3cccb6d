package mat

import (
	"slices"

	"fourwatch/api"
	"fourwatch/fix"
)

// A work is a good matrix at work: its numbers are its own, so that they may be changed in their place, and it remembers whether any result stopped at an end.
type work struct {
	api.Mat
	bent bool
}

func atWork(m api.Mat) *work {
	return &work{Mat: api.Mat{N: m.N, A: slices.Clone(m.A)}}
}

func (w *work) at(i, k int) int { return w.A[i*w.N+k] }

func (w *work) put(i, k, n int) { w.A[i*w.N+k] = n }

func (w *work) row(i int) []int { return w.A[i*w.N : (i+1)*w.N] }

func (w *work) note(n int, bent bool) int {
	w.bent = w.bent || bent
	return n
}

func (w *work) add(a, b int) int { return w.note(fix.Add(a, b)) }

func (w *work) sub(a, b int) int { return w.note(fix.Sub(a, b)) }

func (w *work) mul(a, b int) int { return w.note(fix.Mul(a, b)) }

func (w *work) div(a, b int) int { return w.note(fix.Div(a, b)) }

func (w *work) turn() {
	for i := range w.N {
		for k := range i {
			low, high := w.at(i, k), w.at(k, i)
			w.put(i, k, high)
			w.put(k, i, low)
		}
	}
}

// times is each row with the column v.
func (w *work) times(v []int) []int {
	u := make([]int, w.N)
	for i := range u {
		for k, n := range v {
			u[i] = w.add(u[i], w.mul(w.at(i, k), n))
		}
	}
	return u
}

// factor makes the matrix its own lower factor, column by column, and answers the diagonal. A number is asked for the last time just where the factor's takes its place.
func (w *work) factor() ([]int, api.Errno) {
	d := make([]int, 0, w.N)
	for j := range w.N {
		pivot := w.rest(j, j, d)
		if pivot <= 0 {
			return nil, api.ErrZero
		}
		w.put(j, j, api.One)
		for i := j + 1; i < w.N; i++ {
			w.put(i, j, w.div(w.rest(i, j, d), pivot))
			w.put(j, i, 0)
		}
		d = append(d, pivot)
	}
	return d, api.OK
}

// rest is what the columns done so far, as many as d has numbers, leave of the number in row i and column j.
func (w *work) rest(i, j int, d []int) int {
	n := w.at(i, j)
	for k, pivot := range d {
		n = w.sub(n, w.mul(w.mul(w.at(i, k), w.at(j, k)), pivot))
	}
	return n
}

// goDown makes x what the lower factor times it made x before.
func (w *work) goDown(x []int) {
	for i := range x {
		for k := range i {
			x[i] = w.sub(x[i], w.mul(w.at(i, k), x[k]))
		}
	}
}

func (w *work) divide(x, d []int) {
	for i := range x {
		x[i] = w.div(x[i], d[i])
	}
}

// goUp makes x what the turned lower factor times it made x before; the factor itself is not turned, but read by columns.
func (w *work) goUp(x []int) {
	for i := len(x) - 1; i >= 0; i-- {
		for k := i + 1; k < len(x); k++ {
			x[i] = w.sub(x[i], w.mul(w.at(k, i), x[k]))
		}
	}
}
