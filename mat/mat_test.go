package mat

import (
	"math/rand"
	"slices"
	"testing"

	"fourwatch/api"
	"fourwatch/fix"
)

const (
	one  = api.One
	half = api.One / 2
	top  = api.MaxFix
	low  = api.MinFix
)

// grid is the matrix of the given numbers, row by row.
func grid(n int, a ...int) api.Mat { return api.Mat{N: n, A: a} }

// whole is the matrix of the given whole numbers.
func whole(n int, a ...int) api.Mat { return api.Mat{N: n, A: ones(a...)} }

func ones(a ...int) []int {
	l := make([]int, len(a))
	for i, n := range a {
		l[i] = n * one
	}
	return l
}

// unit is the matrix with n on the diagonal and 0 elsewhere.
func unit(order, n int) api.Mat {
	m := grid(order, make([]int, order*order)...)
	for i := range order {
		m.A[i*order+i] = n
	}
	return m
}

func alike(a, b api.Mat) bool { return a.N == b.N && slices.Equal(a.A, b.A) }

func isZero(m api.Mat) bool { return m.N == 0 && len(m.A) == 0 }

// marked is a list with the given numbers and with marks in its spare room.
func marked(a []int) []int {
	l := append(slices.Clone(a), 77, 78, 79)
	return l[:len(a)]
}

// touched is whether a marked list, or its spare room, is no longer as it was made.
func touched(l, was []int) bool {
	return !slices.Equal(l[:len(l)+3], append(slices.Clone(was), 77, 78, 79))
}

// scribble overwrites a list and its spare room.
func scribble(l []int) {
	l = l[:cap(l)]
	for i := range l {
		l[i] = -12345
	}
}

// some is a number of any length, the same one in each run; ends and noughts are among them.
func some(r *rand.Rand) int {
	switch r.Intn(12) {
	case 0:
		return 0
	case 1:
		return top - r.Intn(3)
	case 2:
		return low + r.Intn(3)
	case 3:
		return one * (r.Intn(9) - 4)
	}
	return int(r.Uint64()) >> r.Intn(64)
}

func someOf(r *rand.Rand, n int) []int {
	l := make([]int, n)
	for i := range l {
		l[i] = some(r)
	}
	return l
}

// bender notes for the told.. functions below, which follow the chapter's words step by step, whether a step stopped.
type bender struct{ bent bool }

func (b *bender) of(n int, bent bool) int {
	if bent {
		b.bent = true
	}
	return n
}

func toldMul(x, y api.Mat) (api.Mat, bool) {
	var b bender
	p := grid(x.N, make([]int, x.N*x.N)...)
	for i := range x.N {
		for k := range x.N {
			sum := 0
			for j := range x.N {
				product := b.of(fix.Mul(x.A[i*x.N+j], y.A[j*x.N+k]))
				sum = b.of(fix.Add(sum, product))
			}
			p.A[i*x.N+k] = sum
		}
	}
	return p, b.bent
}

func toldTimes(m api.Mat, v []int) ([]int, bool) {
	var b bender
	u := make([]int, m.N)
	for i := range m.N {
		sum := 0
		for k := range m.N {
			product := b.of(fix.Mul(m.A[i*m.N+k], v[k]))
			sum = b.of(fix.Add(sum, product))
		}
		u[i] = sum
	}
	return u, b.bent
}

func toldFactor(m api.Mat) (l [6][6]int, d [6]int, bent bool, errno api.Errno) {
	var b bender
	for j := range m.N {
		n := m.A[j*m.N+j]
		for k := 0; k <= j-1; k++ {
			square := b.of(fix.Mul(l[j][k], l[j][k]))
			product := b.of(fix.Mul(square, d[k]))
			n = b.of(fix.Sub(n, product))
		}
		if n <= 0 {
			return l, d, false, api.ErrZero
		}
		d[j] = n
		l[j][j] = one
		for i := j + 1; i < m.N; i++ {
			n := m.A[i*m.N+j]
			for k := 0; k <= j-1; k++ {
				first := b.of(fix.Mul(l[i][k], l[j][k]))
				product := b.of(fix.Mul(first, d[k]))
				n = b.of(fix.Sub(n, product))
			}
			l[i][j] = b.of(fix.Div(n, d[j]))
		}
	}
	return l, d, b.bent, api.OK
}

func toldSolve(m api.Mat, c []int) ([]int, bool, api.Errno) {
	l, d, bent, errno := toldFactor(m)
	if errno != api.OK {
		return nil, false, errno
	}
	b := bender{bent}
	var y, z, x [6]int
	for i := range m.N {
		y[i] = c[i]
		for k := 0; k <= i-1; k++ {
			product := b.of(fix.Mul(l[i][k], y[k]))
			y[i] = b.of(fix.Sub(y[i], product))
		}
	}
	for i := range m.N {
		z[i] = b.of(fix.Div(y[i], d[i]))
	}
	for i := m.N - 1; i >= 0; i-- {
		x[i] = z[i]
		for k := i + 1; k < m.N; k++ {
			product := b.of(fix.Mul(l[k][i], x[k]))
			x[i] = b.of(fix.Sub(x[i], product))
		}
	}
	return x[:m.N], b.bent, api.OK
}

// factorable is a matrix that mostly has factors: a lower one of small numbers, times a diagonal above 0, times the lower one turned; other numbers stand above its diagonal.
func factorable(r *rand.Rand, order int) api.Mat {
	var l [6][6]int
	var d [6]int
	for i := range order {
		l[i][i] = one
		for k := range i {
			l[i][k] = r.Intn(4*one) - 2*one
		}
		d[i] = 1 + r.Intn(1<<(20+r.Intn(20)))
	}
	m := grid(order, make([]int, order*order)...)
	for i := range order {
		for k := range order {
			if k > i {
				m.A[i*order+k] = some(r)
				continue
			}
			for j := range k + 1 {
				first, _ := fix.Mul(l[i][j], l[k][j])
				product, _ := fix.Mul(first, d[j])
				m.A[i*order+k] += product
			}
		}
		m.A[i*order+i] += r.Intn(1 << 20)
	}
	return m
}

func TestP3_1Good(t *testing.T) {
	for order := 1; order <= api.MaxOrder; order++ {
		for n := 0; n <= 50; n++ {
			if got := Good(grid(order, make([]int, n)...)); got != (n == order*order) {
				t.Errorf("order %d, %d numbers: %v", order, n, got)
			}
		}
		short := make([]int, order*order-1, 60)
		if Good(api.Mat{N: order, A: short}) {
			t.Errorf("order %d: spare room is counted", order)
		}
	}
	for _, order := range []int{0, -1, -2, -6, 7, 8, 1 << 31, 1 << 32, 1<<32 + 1, 1 << 62, 1<<63 - 1, -1 << 63, -1<<63 + 1} {
		for _, n := range []int{0, 1, 4, 36, 49, 64} {
			if Good(grid(order, make([]int, n)...)) {
				t.Errorf("order %d, %d numbers: good", order, n)
			}
		}
	}
	if Good(api.Mat{}) || Good(api.Mat{N: 1}) || Good(api.Mat{N: 1, A: []int{}}) || !Good(grid(1, 0)) {
		t.Errorf("lists without numbers, or of one")
	}
}

// badOnes are matrices that are none.
func badOnes() []api.Mat {
	return []api.Mat{
		{}, {N: 0, A: []int{one}}, {N: 1}, {N: 1, A: []int{one, one}}, {N: 2, A: ones(4, 2, 2)}, {N: 2, A: ones(4, 2, 2, 5, 1)},
		{N: -2, A: ones(4, 2, 2, 5)}, {N: -1, A: []int{one}}, {N: 3, A: ones(4, 2, 2, 5)}, unit(7, one), unit(8, one),
		{N: 6, A: make([]int, 35, 40)}, {N: 1 << 32}, {N: 1<<32 + 1, A: []int{one}}, {N: -1 << 63}, {N: 1<<63 - 1, A: []int{one}},
	}
}

func TestP3_1SizeOfBadOnes(t *testing.T) {
	for _, m := range badOnes() {
		if g, e := Turn(m); e != api.ErrSize || !isZero(g) {
			t.Errorf("Turn(%v): %v, %d", m, g, e)
		}
		if l, d, bent, e := Factor(m); e != api.ErrSize || bent || !isZero(l) || len(d) != 0 {
			t.Errorf("Factor(%v): %v, %v, %v, %d", m, l, d, bent, e)
		}
		for _, g := range []api.Mat{m, whole(1, 3), whole(2, 4, 2, 2, 5), unit(6, one)} {
			if p, bent, e := Mul(m, g); e != api.ErrSize || bent || !isZero(p) {
				t.Errorf("Mul(%v, %v): %v, %v, %d", m, g, p, bent, e)
			}
			if p, bent, e := Mul(g, m); e != api.ErrSize || bent || !isZero(p) {
				t.Errorf("Mul(%v, %v): %v, %v, %d", g, m, p, bent, e)
			}
		}
		for n := range 9 {
			if u, bent, e := Times(m, make([]int, n)); e != api.ErrSize || bent || len(u) != 0 {
				t.Errorf("Times(%v, %d numbers): %v, %v, %d", m, n, u, bent, e)
			}
			if u, bent, e := Solve(m, make([]int, n)); e != api.ErrSize || bent || len(u) != 0 {
				t.Errorf("Solve(%v, %d numbers): %v, %v, %d", m, n, u, bent, e)
			}
		}
	}
	// Two of one order and of one length, neither of them good.
	if _, _, e := Mul(grid(2, one), grid(2, one)); e != api.ErrSize {
		t.Errorf("Mul of two bad ones: %d", e)
	}
}

func TestP3_1SizeOfTwo(t *testing.T) {
	for n := 1; n <= api.MaxOrder; n++ {
		for k := 1; k <= api.MaxOrder; k++ {
			p, bent, e := Mul(unit(n, top), unit(k, top))
			if n == k && (e != api.OK || !bent || p.N != n) || n != k && (e != api.ErrSize || bent || !isZero(p)) {
				t.Errorf("Mul of orders %d, %d: %v, %v, %d", n, k, p, bent, e)
			}
		}
	}
}

func TestP3_1SizeOfColumns(t *testing.T) {
	for order := 1; order <= api.MaxOrder; order++ {
		for n := range 9 {
			// Room behind a column is not a part of it.
			v := make([]int, n, 20)
			u, bent, e := Times(unit(order, one), v)
			if n == order && (e != api.OK || bent || len(u) != n) || n != order && (e != api.ErrSize || bent || len(u) != 0) {
				t.Errorf("Times, order %d, %d numbers: %v, %v, %d", order, n, u, bent, e)
			}
			u, bent, e = Solve(unit(order, one), v)
			if n == order && (e != api.OK || bent || len(u) != n) || n != order && (e != api.ErrSize || bent || len(u) != 0) {
				t.Errorf("Solve, order %d, %d numbers: %v, %v, %d", order, n, u, bent, e)
			}
			// The size is named ahead of the nought.
			u, bent, e = Solve(unit(order, 0), v)
			if n == order && e != api.ErrZero || n != order && e != api.ErrSize || bent || len(u) != 0 {
				t.Errorf("Solve of noughts, order %d, %d numbers: %v, %v, %d", order, n, u, bent, e)
			}
		}
	}
	if _, _, e := Times(unit(1, one), nil); e != api.ErrSize {
		t.Errorf("Times without a column: %d", e)
	}
	if _, _, e := Solve(unit(1, one), nil); e != api.ErrSize {
		t.Errorf("Solve without a column: %d", e)
	}
}

func TestP3_2Turn(t *testing.T) {
	if m, e := Turn(grid(3, 1, 2, 3, 4, 5, 6, low, 8, top)); e != api.OK || !alike(m, grid(3, 1, 4, low, 2, 5, 8, 3, 6, top)) {
		t.Errorf("order 3: %v, %d", m, e)
	}
	if m, e := Turn(grid(1, low)); e != api.OK || !alike(m, grid(1, low)) {
		t.Errorf("order 1: %v, %d", m, e)
	}
	for order := 1; order <= api.MaxOrder; order++ {
		m := grid(order, make([]int, order*order)...)
		for i := range m.A {
			m.A[i] = 100 + i
		}
		g, e := Turn(m)
		if e != api.OK || !Good(g) || g.N != order {
			t.Fatalf("order %d: %v, %d", order, g, e)
		}
		for i := range order {
			for k := range order {
				if g.A[i*order+k] != m.A[k*order+i] {
					t.Errorf("order %d: row %d, column %d: %d", order, i, k, g.A[i*order+k])
				}
			}
		}
	}
}

func TestP3_3Mul(t *testing.T) {
	for _, c := range []struct {
		a, b, want api.Mat
		bent       bool
	}{
		{whole(2, 1, 2, 3, 4), whole(2, 5, 6, 7, 8), whole(2, 19, 22, 43, 50), false},
		{whole(2, 5, 6, 7, 8), whole(2, 1, 2, 3, 4), whole(2, 23, 34, 31, 46), false},
		{whole(3, 1, 2, 3, 4, 5, 6, 7, 8, 9), whole(3, -1, 0, 2, 0, 3, 0, 5, 0, -7), whole(3, 14, 6, -19, 26, 15, -34, 38, 24, -49), false},
		{whole(1, -3), whole(1, 7), whole(1, -21), false},
		// Each product is rounded for itself: halves go up.
		{grid(2, 1, 1, -1, -1), grid(2, half, 0, half, 0), grid(2, 2, 0, 0, 0), false},
		{grid(2, 1, 1, 3, -3), grid(2, half-1, half, half-1, -half), grid(2, 0, 1, 0, 4), false},
		// A product that stops, up and down; a sum that stops, up and down; one that just doesn't.
		{grid(1, top), grid(1, one+1), grid(1, top), true},
		{grid(1, low), grid(1, one+1), grid(1, low), true},
		{grid(1, low), grid(1, -one), grid(1, top), true},
		{grid(2, top, 1, 0, 0), grid(2, one, 0, one, 0), grid(2, top, 0, 0, 0), true},
		{grid(2, low, -1, 0, 0), grid(2, one, 0, one, 0), grid(2, low, 0, 0, 0), true},
		{grid(2, 0, 0, low+1, -1), grid(2, 0, one, 0, one), grid(2, 0, 0, 0, low), false},
		{grid(2, 0, 0, low, -1), grid(2, 0, one, 0, one), grid(2, 0, 0, 0, low), true},
		{grid(2, top, low, 0, 0), grid(2, one, 0, one, 0), grid(2, -1, 0, 0, 0), false},
		// A product that stops is added as the end that it stopped at.
		{grid(2, top, -5, 0, 0), grid(2, 2*one, 0, one, 0), grid(2, top-5, 0, 0, 0), true},
	} {
		if p, bent, e := Mul(c.a, c.b); e != api.OK || bent != c.bent || !alike(p, c.want) {
			t.Errorf("Mul(%v, %v): %v, %v, %d", c.a, c.b, p, bent, e)
		}
	}
}

func TestP3_3MulOrder(t *testing.T) {
	b := unit(3, 0)
	for j := range 3 {
		b.A[3*j+1] = one
	}
	for _, c := range []struct {
		row  [3]int
		want int
		bent bool
	}{
		{[3]int{top, 1, -top}, 0, true},
		{[3]int{-top, 1, top}, 1, false},
		{[3]int{top, -top, 1}, 1, false},
		{[3]int{1, top, -top}, 0, true},
		{[3]int{low, -7, top}, -1, true},
		{[3]int{top, -7, low}, -8, false},
	} {
		for i := range 3 {
			a := unit(3, 0)
			copy(a.A[3*i:], c.row[:])
			want := unit(3, 0)
			want.A[3*i+1] = c.want
			if p, bent, e := Mul(a, b); e != api.OK || bent != c.bent || !alike(p, want) {
				t.Errorf("row %d of %v: %v, %v, %d", i, c.row, p, bent, e)
			}
		}
	}
}

func TestP3_3MulAsTold(t *testing.T) {
	r := rand.New(rand.NewSource(3))
	straight := 0
	for n := range 6000 {
		order := 1 + n%api.MaxOrder
		a, b := grid(order, someOf(r, order*order)...), grid(order, someOf(r, order*order)...)
		if n%2 == 0 {
			for i := range a.A {
				a.A[i] >>= 16
				b.A[i] >>= 20
			}
		}
		want, wantBent := toldMul(a, b)
		if p, bent, e := Mul(a, b); e != api.OK || bent != wantBent || !alike(p, want) {
			t.Fatalf("Mul(%v, %v): %v, %v, %d", a, b, p, bent, e)
		}
		if !wantBent {
			straight++
		}
	}
	if straight < 500 || straight > 5500 {
		t.Errorf("%d straight ones of 6000", straight)
	}
}

// TestP3_3MulOfOneTwice has one list handed in as both matrices.
func TestP3_3MulOfOneTwice(t *testing.T) {
	m := whole(2, 1, 2, 3, 4)
	if p, bent, e := Mul(m, m); e != api.OK || bent || !alike(p, whole(2, 7, 10, 15, 22)) || !alike(m, whole(2, 1, 2, 3, 4)) {
		t.Errorf("square: %v, %v, %d; %v", p, bent, e, m)
	}
}

func TestP3_4Times(t *testing.T) {
	for _, c := range []struct {
		m    api.Mat
		v    []int
		want []int
		bent bool
	}{
		{whole(2, 1, 2, 3, 4), ones(1, -1), ones(-1, -1), false},
		{whole(2, 1, 2, 3, 4), ones(5, 6), ones(17, 39), false},
		{whole(3, 1, 2, 3, 4, 5, 6, 7, 8, 9), ones(2, -3, 5), ones(11, 23, 35), false},
		{whole(1, 9), ones(-2), ones(-18), false},
		{grid(2, 1, 1, -1, -1), []int{half, half}, []int{2, 0}, false},
		{grid(1, top), []int{one + 1}, []int{top}, true},
		{grid(1, low), []int{one + 1}, []int{low}, true},
		{grid(2, one, 0, one, one), []int{top, 1}, []int{top, top}, true},
		{grid(2, one, one, one, 0), []int{low, -1}, []int{low, low}, true},
		{grid(2, one, one, 0, one), []int{top - 1, 1}, []int{top, 1}, false},
		{grid(2, 2*one, one, 0, one), []int{top, -5}, []int{top - 5, -5}, true},
		{grid(3, one, one, one, 0, 0, 0, 0, 0, 0), []int{top, 1, -top}, []int{0, 0, 0}, true},
		{grid(3, 0, 0, 0, one, one, one, 0, 0, 0), []int{-top, 1, top}, []int{0, 1, 0}, false},
		{grid(3, 0, 0, 0, 0, 0, 0, one, one, one), []int{low, -7, top}, []int{0, 0, -1}, true},
	} {
		if u, bent, e := Times(c.m, c.v); e != api.OK || bent != c.bent || !slices.Equal(u, c.want) {
			t.Errorf("Times(%v, %v): %v, %v, %d", c.m, c.v, u, bent, e)
		}
	}
}

func TestP3_4TimesAsTold(t *testing.T) {
	r := rand.New(rand.NewSource(4))
	straight := 0
	for n := range 6000 {
		order := 1 + n%api.MaxOrder
		m, v := grid(order, someOf(r, order*order)...), someOf(r, order)
		if n%2 == 0 {
			for i := range m.A {
				m.A[i] >>= 28
			}
		}
		want, wantBent := toldTimes(m, v)
		if u, bent, e := Times(m, v); e != api.OK || bent != wantBent || !slices.Equal(u, want) {
			t.Fatalf("Times(%v, %v): %v, %v, %d", m, v, u, bent, e)
		}
		if !wantBent {
			straight++
		}
	}
	if straight < 500 || straight > 5500 {
		t.Errorf("%d straight ones of 6000", straight)
	}
}

// lastInRow is a matrix whose number in row 3 and column 2 stops at the top where the first column's part is taken away, but not where the second one's would be first.
func lastInRow() api.Mat {
	return grid(4,
		one, 0, 0, 0,
		0, top, 0, 0,
		1<<18, 1<<46, top, 0,
		-1<<15, 1<<47, top, top)
}

func TestP3_5Factor(t *testing.T) {
	for _, c := range []struct {
		m, l api.Mat
		d    []int
		bent bool
	}{
		{grid(1, 1), grid(1, one), []int{1}, false},
		{grid(1, top), grid(1, one), []int{top}, false},
		{whole(2, 4, 2, 2, 5), grid(2, one, 0, half, one), ones(4, 4), false},
		{whole(2, 4, 99, 2, 5), grid(2, one, 0, half, one), ones(4, 4), false},
		{whole(2, 4, 2, -2, 5), grid(2, one, 0, -half, one), ones(4, 4), false},
		{whole(3, 4, 7, 7, 12, 37, 7, -16, -43, 98), whole(3, 1, 0, 0, 3, 1, 0, -4, 5, 1), ones(4, 1, 9), false},
		{grid(3, 4*one, low, top, 12*one, 37*one, low, -16*one, -43*one, 98*one), whole(3, 1, 0, 0, 3, 1, 0, -4, 5, 1), ones(4, 1, 9), false},
		// Two factors' product is rounded ahead of the product with the diagonal's number: a quarter of the least number is nought.
		{grid(2, top, 0, 1<<46, top), grid(2, one, 0, 1<<15, one), []int{top, top}, false},
		{grid(3, top, 0, 0, 1<<46, one, 0, 1<<46, half, top), grid(3, one, 0, 0, 1<<15, one, 0, 1<<15, half, one), []int{top, one, top - 1<<30}, false},
		// A quotient that stops, up and down, and squares that stop with it.
		{grid(2, 1, 0, 1<<40, 1<<40), grid(2, one, 0, top, one), []int{1, 1<<40 - 1<<31}, true},
		{grid(2, 1, 0, -1<<40, 1<<40), grid(2, one, 0, low, one), []int{1, 1<<40 - 1<<31}, true},
		// A square that alone stops.
		{grid(2, 1, 0, 1<<20, 1<<40), grid(2, one, 0, 1<<52, one), []int{1, 1<<40 - 1<<31}, true},
		// One square that just doesn't stop.
		{grid(2, 1, 0, 1<<15, 1<<40), grid(2, one, 0, 1<<47, one), []int{1, 1<<40 - 1<<30}, false},
		// A difference that alone stops, in the order that is told.
		{lastInRow(), grid(4, one, 0, 0, 0, 0, one, 0, 0, 1<<18, 1<<15, one, 0, -1<<15, 1<<16, one-1, one), []int{one, top, top - 16, 1<<31 + 16}, true},
	} {
		if l, d, bent, e := Factor(c.m); e != api.OK || bent != c.bent || !alike(l, c.l) || !slices.Equal(d, c.d) {
			t.Errorf("Factor(%v): %v, %v, %v, %d", c.m, l, d, bent, e)
		}
	}
}

func TestP3_5FactorZero(t *testing.T) {
	for _, m := range []api.Mat{
		grid(1, 0), grid(1, -1), grid(1, low),
		whole(2, 0, 0, 0, 1), whole(2, -1, 0, 0, 1), whole(2, 1, 0, 0, 0), whole(2, 1, 0, 0, -1),
		whole(2, 1, 2, 2, 4), whole(2, 1, 2, 2, 3), grid(2, one, 0, 2*one, 4*one-1),
		whole(3, 4, 0, 0, 12, 37, 0, -16, -43, 89),
		// One that stops ahead of it, and one that stops at the low end in it: bent is no more to be told.
		grid(2, 1, 0, 1<<40, 1<<31), grid(2, one, 0, 2*one, low), grid(2, 1, 0, low, low),
		whole(6, 1, 0, 0, 0, 0, 0, 0, 1, 0, 0, 0, 0, 0, 0, 1, 0, 0, 0, 0, 0, 0, 1, 0, 0, 0, 0, 0, 0, 1, 0, 0, 0, 0, 0, 0, 0),
	} {
		if l, d, bent, e := Factor(m); e != api.ErrZero || bent || !isZero(l) || len(d) != 0 {
			t.Errorf("Factor(%v): %v, %v, %v, %d", m, l, d, bent, e)
		}
		if x, bent, e := Solve(m, make([]int, m.N)); e != api.ErrZero || bent || len(x) != 0 {
			t.Errorf("Solve(%v): %v, %v, %d", m, x, bent, e)
		}
	}
	if l, d, bent, e := Factor(grid(2, one, 0, 2*one, 4*one+1)); e != api.OK || bent || !alike(l, whole(2, 1, 0, 2, 1)) || !slices.Equal(d, []int{one, 1}) {
		t.Errorf("the least number on the diagonal: %v, %v, %v, %d", l, d, bent, e)
	}
	// A nought is found at each place of the diagonal, in each order.
	for order := 1; order <= api.MaxOrder; order++ {
		for j := range order {
			for _, n := range []int{0, -1, low} {
				m := unit(order, one)
				m.A[j*order+j] = n
				if _, _, _, e := Factor(m); e != api.ErrZero {
					t.Errorf("order %d, %d at %d: %d", order, n, j, e)
				}
			}
		}
	}
}

func TestP3_5FactorAbove(t *testing.T) {
	r := rand.New(rand.NewSource(5))
	for n := range 600 {
		order := 1 + n%api.MaxOrder
		m := factorable(r, order)
		l, d, bent, e := Factor(m)
		for i := range order {
			for k := i + 1; k < order; k++ {
				m.A[i*order+k] = some(r)
				if e == api.OK && l.A[i*order+k] != 0 {
					t.Errorf("order %d, row %d, column %d: %d", order, i, k, l.A[i*order+k])
				}
			}
			if e == api.OK && l.A[i*order+i] != one {
				t.Errorf("order %d, row %d: %d", order, i, l.A[i*order+i])
			}
		}
		if g, f, bent2, e2 := Factor(m); e2 != e || bent2 != bent || !alike(g, l) || !slices.Equal(f, d) {
			t.Errorf("order %d: the numbers above the diagonal count", order)
		}
		x, bent, e := Solve(m, ones(9, 8, 7, 6, 5, 4)[:order])
		for i := range order {
			for k := i + 1; k < order; k++ {
				m.A[i*order+k] = some(r)
			}
		}
		if y, bent2, e2 := Solve(m, ones(9, 8, 7, 6, 5, 4)[:order]); e2 != e || bent2 != bent || !slices.Equal(x, y) {
			t.Errorf("order %d: the numbers above the diagonal count in Solve", order)
		}
	}
}

// trial is the nth matrix of a run: most of them have factors, some of them are of any numbers.
func trial(r *rand.Rand, n int) api.Mat {
	order := 1 + n%api.MaxOrder
	m := factorable(r, order)
	switch n % 5 {
	case 0:
		m = grid(order, someOf(r, order*order)...)
		for i := range order {
			m.A[i*order+i] |= 1 << 62
		}
	case 1:
		// Numbers beside a small one on the diagonal stop where they are divided and squared.
		m.A[0] = 1 + r.Intn(3)
		for i := 1; i < order; i++ {
			m.A[i*order] = r.Intn(1<<22) - 1<<21
			m.A[i*order+i] = top - r.Intn(1<<40)
		}
	}
	return m
}

func TestP3_5FactorAsTold(t *testing.T) {
	r := rand.New(rand.NewSource(6))
	straight, bentOnes, none := 0, 0, 0
	for n := range 12000 {
		m := trial(r, n)
		wantL, wantD, wantBent, wantErrno := toldFactor(m)
		l, d, bent, e := Factor(m)
		if e != wantErrno || bent != wantBent {
			t.Fatalf("Factor(%v): %v, %d", m, bent, e)
		}
		if e != api.OK {
			none++
			continue
		}
		for i := range m.N {
			if !slices.Equal(l.A[i*m.N:(i+1)*m.N], wantL[i][:m.N]) {
				t.Fatalf("Factor(%v): %v", m, l)
			}
		}
		if l.N != m.N || len(l.A) != m.N*m.N || !slices.Equal(d, wantD[:m.N]) {
			t.Fatalf("Factor(%v): %v, %v", m, l, d)
		}
		if bent {
			bentOnes++
		} else {
			straight++
		}
	}
	if straight < 1000 || bentOnes < 200 || none < 200 {
		t.Errorf("%d straight ones, %d bent ones, %d without factors", straight, bentOnes, none)
	}
}

func TestP3_6Solve(t *testing.T) {
	for _, c := range []struct {
		m    api.Mat
		b    []int
		want []int
		bent bool
	}{
		{whole(1, 4), ones(6), []int{3 * half}, false},
		{whole(2, 4, 2, 2, 5), ones(8, 12), ones(1, 2), false},
		{whole(3, 4, 0, 0, 12, 37, 0, -16, -43, 98), ones(-20, -43, 192), ones(1, 2, 3), false},
		{grid(1, 2), []int{1}, []int{half}, false},
		// y divided by the diagonal's number is to the nearest; halves go up.
		{whole(1, 2), []int{1}, []int{1}, false},
		{whole(1, 2), []int{-1}, []int{0}, false},
		// On the way down a product alone stops, up and down, or a difference alone.
		{whole(2, 4, 0, 8, 17), []int{top, top}, []int{1 << 61, 0}, true},
		{whole(2, 4, 0, 8, 17), []int{low, low}, []int{-1 << 61, 0}, true},
		{whole(2, 1, 0, 1, 5), []int{one, low}, []int{one + 1<<61, -1 << 61}, true},
		{whole(2, 1, 0, 1, 5), []int{-one, top}, []int{-one - 1<<61, 1 << 61}, true},
		// A quotient alone stops.
		{grid(1, half), []int{top}, []int{top}, true},
		{grid(1, half), []int{low}, []int{low}, true},
		{grid(2, one, 0, 0, half), []int{one, top}, []int{one, top}, true},
		{grid(1, one), []int{top}, []int{top}, false},
		// On the way up a product alone stops, or a difference alone.
		{whole(2, 1, 0, 2, 5), []int{0, top}, []int{-top, top}, true},
		{whole(2, 1, 0, 2, 5), []int{0, low}, []int{top, low}, true},
		{whole(2, 1, 0, 1, 2), []int{low, low + one}, []int{low, one}, true},
		{whole(2, 1, 0, 1, 2), []int{top, top - one}, []int{top, -one}, true},
		// What Factor bent counts, though nothing else stops.
		{grid(2, 1, 0, 1<<20, 1<<40), []int{0, 0}, []int{0, 0}, true},
		{lastInRow(), []int{0, 0, 0, 0}, []int{0, 0, 0, 0}, true},
		{grid(2, 1, 0, 1<<15, 1<<40), []int{0, 0}, []int{0, 0}, false},
	} {
		if x, bent, e := Solve(c.m, c.b); e != api.OK || bent != c.bent || !slices.Equal(x, c.want) {
			t.Errorf("Solve(%v, %v): %v, %v, %d", c.m, c.b, x, bent, e)
		}
	}
}

// TestP3_6SolveOrder has differences that stop in the order that is told and not in the other one, and the other way about.
func TestP3_6SolveOrder(t *testing.T) {
	// Lower factors with the last row 1, 1, 1 and with the first column 1, 1, -1, and noughts else; diagonals of ones.
	down := whole(3, 1, 0, 0, 0, 1, 0, 1, 1, 3)
	up := whole(3, 1, 0, 0, 1, 2, 0, -1, -1, 2)
	for _, c := range []struct {
		m    api.Mat
		b    []int
		want []int
		bent bool
	}{
		// The last y: top + 1 - 1, and top - 1 + 1.
		{down, []int{-1, 1, top}, []int{-top, 2 - top, top - 1}, true},
		{down, []int{1, -1, top}, []int{1 - top, low, top}, false},
		// The first x: top + 1 - 1, and top - 1 - 1 + 2.
		{up, []int{top, top - 1, low}, []int{top - 1, -1, -1}, true},
		{up, []int{top - 1, top, 3 - top}, []int{top, 1, 2}, false},
	} {
		if x, bent, e := Solve(c.m, c.b); e != api.OK || bent != c.bent || !slices.Equal(x, c.want) {
			t.Errorf("Solve(%v, %v): %v, %v, %d", c.m, c.b, x, bent, e)
		}
	}
}

func TestP3_6SolveAsTold(t *testing.T) {
	r := rand.New(rand.NewSource(7))
	straight, bentOnes, none := 0, 0, 0
	for n := range 12000 {
		m := trial(r, n)
		b := someOf(r, m.N)
		if n%7 < 4 {
			for i := range b {
				b[i] >>= 34
			}
		}
		want, wantBent, wantErrno := toldSolve(m, b)
		x, bent, e := Solve(m, b)
		if e != wantErrno || bent != wantBent || !slices.Equal(x, want) {
			t.Fatalf("Solve(%v, %v): %v, %v, %d", m, b, x, bent, e)
		}
		switch {
		case e != api.OK:
			none++
		case bent:
			bentOnes++
		default:
			straight++
		}
	}
	if straight < 1000 || bentOnes < 1000 || none < 200 {
		t.Errorf("%d straight ones, %d bent ones, %d without factors", straight, bentOnes, none)
	}
}

// answers are all lists that the calls answer to a matrix, another one and a column.
func answers(a, b api.Mat, v []int) [][]int {
	turned, _ := Turn(a)
	product, _, _ := Mul(a, b)
	times, _, _ := Times(a, v)
	l, d, _, _ := Factor(a)
	x, _, _ := Solve(a, v)
	return [][]int{turned.A, product.A, times, l.A, d, x}
}

func TestP3_2To6Memory(t *testing.T) {
	r := rand.New(rand.NewSource(8))
	for order := 1; order <= api.MaxOrder; order++ {
		was, wasOther, wasColumn := unit(order, 3*one).A, someOf(r, order*order), someOf(r, order)
		for i := range order {
			for k := range order {
				if i != k {
					was[i*order+k] = (k - i) << 28
				}
			}
		}
		a, b := grid(order, marked(was)...), grid(order, marked(wasOther)...)
		v := marked(wasColumn)
		handedOn := func(when string) {
			if touched(a.A, was) || touched(b.A, wasOther) || touched(v, wasColumn) {
				t.Fatalf("order %d: a list handed in is changed %s", order, when)
			}
		}
		first := answers(a, b, v)
		handedOn("by the calls")
		kept := make([][]int, len(first))
		for i, l := range first {
			if len(l) < order {
				t.Fatalf("order %d, list %d: %v", order, i, l)
			}
			kept[i] = slices.Clone(l)
		}
		for i, l := range first {
			scribble(l)
			handedOn("by a change of an answer")
			for k := i + 1; k < len(first); k++ {
				if !slices.Equal(first[k], kept[k]) {
					t.Fatalf("order %d: answers %d and %d share memory", order, i, k)
				}
			}
		}
		for i, l := range answers(a, b, v) {
			if !slices.Equal(l, kept[i]) {
				t.Errorf("order %d, list %d: %v, then %v", order, i, kept[i], l)
			}
		}
		second := answers(a, b, v)
		scribble(a.A)
		scribble(b.A)
		scribble(v)
		for i, l := range second {
			if !slices.Equal(l, kept[i]) {
				t.Errorf("order %d, list %d is kept from what was handed in", order, i)
			}
		}
	}
}

// TestP3_5MemoryOfErrors has lists that must stay as they were though the call is given up half way.
func TestP3_5MemoryOfErrors(t *testing.T) {
	was := ones(4, 1, 1, 2, 5, 1, 2, 5, -9)
	m, v := grid(3, marked(was)...), marked(ones(1, 2, 3))
	_, _, _, e := Factor(m)
	_, _, f := Solve(m, v)
	if e != api.ErrZero || f != api.ErrZero || touched(m.A, was) || touched(v, ones(1, 2, 3)) {
		t.Errorf("%d, %d: %v, %v", e, f, m, v)
	}
}
