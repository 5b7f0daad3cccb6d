package fix

import (
	"math/big"
	"math/rand"
	"testing"

	"fourwatch/api"
)

// The tests hold the operations against whole numbers of any size, reckoned as the promises say them.

var (
	least    = big.NewInt(api.MinFix)
	greatest = big.NewInt(api.MaxFix)
	one      = big.NewInt(api.One)
)

func bigOf(a int) *big.Int { return big.NewInt(int64(a)) }

func stopped(n *big.Int) (int, bool) {
	if n.Cmp(least) < 0 {
		return api.MinFix, true
	}
	if n.Cmp(greatest) > 0 {
		return api.MaxFix, true
	}
	return int(n.Int64()), false
}

// nearest is n / d and a half, rounded down.
func nearest(n, d *big.Int) *big.Int {
	n2 := new(big.Int).Lsh(n, 1)
	d2 := new(big.Int).Lsh(d, 1)
	n2.Add(n2, d)
	if d2.Sign() < 0 {
		n2.Neg(n2)
		d2.Neg(d2)
	}
	return n2.Div(n2, d2)
}

func wantAdd(a, b int) (int, bool) { return stopped(new(big.Int).Add(bigOf(a), bigOf(b))) }

func wantSub(a, b int) (int, bool) { return stopped(new(big.Int).Sub(bigOf(a), bigOf(b))) }

func wantMul(a, b int) (int, bool) {
	return stopped(nearest(new(big.Int).Mul(bigOf(a), bigOf(b)), one))
}

func wantDiv(a, b int) (int, bool) {
	switch {
	case b != 0:
		return stopped(nearest(new(big.Int).Mul(bigOf(a), one), bigOf(b)))
	case a > 0:
		return api.MaxFix, true
	case a < 0:
		return api.MinFix, true
	}
	return 0, true
}

// edges are all numbers within 1 of a power of 2, of three halves of one, or of an end, of both signs.
func edges() []int {
	var l []int
	for shift := range 64 {
		for d := -1; d <= 1; d++ {
			for _, base := range []int{1 << shift, 3 << shift} {
				l = append(l, base+d, -base+d)
			}
		}
	}
	return l
}

// someNumbers are numbers of all lengths, the same ones in each run.
func someNumbers(n int) []int {
	r := rand.New(rand.NewSource(1))
	l := make([]int, n)
	for i := range l {
		l[i] = int(r.Uint64()) >> r.Intn(64)
	}
	return l
}

type operation func(a, b int) (int, bool)

func compare(t *testing.T, name string, f, want operation, a, b int) {
	t.Helper()
	got, bent := f(a, b)
	wanted, wantedBent := want(a, b)
	if got != wanted || bent != wantedBent {
		t.Fatalf("%s(%d, %d): %d, %v; wanted %d, %v", name, a, b, got, bent, wanted, wantedBent)
	}
}

func compareAll(t *testing.T, name string, f, want operation) {
	t.Helper()
	l := edges()
	for _, a := range l {
		for _, b := range l {
			compare(t, name, f, want, a, b)
		}
	}
	l = someNumbers(200000)
	for i := 0; i < len(l); i += 2 {
		compare(t, name, f, want, l[i], l[i+1])
	}
}

type row struct {
	a, b, want int
	bent       bool
}

func checkRows(t *testing.T, name string, f operation, rows []row) {
	t.Helper()
	for _, x := range rows {
		if got, bent := f(x.a, x.b); got != x.want || bent != x.bent {
			t.Errorf("%s(%d, %d): %d, %v; wanted %d, %v", name, x.a, x.b, got, bent, x.want, x.bent)
		}
	}
}

func TestP1_1Add(t *testing.T) {
	checkRows(t, "Add", Add, []row{
		{0, 0, 0, false},
		{api.One, 2 * api.One, 3 * api.One, false},
		{5, -7, -2, false},
		{api.MaxFix, 0, api.MaxFix, false},
		{api.MaxFix - 1, 1, api.MaxFix, false},
		{api.MaxFix, 1, api.MaxFix, true},
		{api.MaxFix, api.MaxFix, api.MaxFix, true},
		{api.MinFix, 0, api.MinFix, false},
		{api.MinFix + 1, -1, api.MinFix, false},
		{api.MinFix, -1, api.MinFix, true},
		{api.MinFix, api.MinFix, api.MinFix, true},
		{api.MinFix, api.MaxFix, -1, false},
	})
	compareAll(t, "Add", Add, wantAdd)
}

func TestP1_1Sub(t *testing.T) {
	checkRows(t, "Sub", Sub, []row{
		{0, 0, 0, false},
		{5, 7, -2, false},
		{5, -7, 12, false},
		{-1, api.MinFix, api.MaxFix, false},
		{0, api.MinFix, api.MaxFix, true},
		{api.MaxFix, -1, api.MaxFix, true},
		{api.MaxFix, api.MaxFix, 0, false},
		{-1, api.MaxFix, api.MinFix, false},
		{-2, api.MaxFix, api.MinFix, true},
		{api.MinFix, 1, api.MinFix, true},
		{api.MinFix, api.MinFix, 0, false},
	})
	compareAll(t, "Sub", Sub, wantSub)
}

func TestP1_2Mul(t *testing.T) {
	checkRows(t, "Mul", Mul, []row{
		{3 * api.One, -2 * api.One, -6 * api.One, false},
		{1, 1 << 31, 1, false},
		{-1, 1 << 31, 0, false},
		{1, -1 << 31, 0, false},
		{-1, -1 << 31, 1, false},
		{1, 1<<31 - 1, 0, false},
		{-1, 1<<31 + 1, -1, false},
		{3, 1 << 31, 2, false},
		{-3, 1 << 31, -1, false},
		{0, api.MinFix, 0, false},
		{api.MaxFix, api.One, api.MaxFix, false},
		{api.MaxFix, api.One + 1, api.MaxFix, true},
		{api.MinFix, api.One, api.MinFix, false},
		{api.MinFix, api.One + 1, api.MinFix, true},
		{api.MinFix, -api.One, api.MaxFix, true},
		{api.MinFix, api.MinFix, api.MaxFix, true},
		{api.MinFix, api.MaxFix, api.MinFix, true},
		{api.MaxFix, api.MaxFix, api.MaxFix, true},
	})
	compareAll(t, "Mul", Mul, wantMul)
}

// Products that lie some halves above or below an end, which is 2^95 ahead of the division by 2^32.
func TestP1_2MulNearAnEnd(t *testing.T) {
	end := new(big.Int).Lsh(big.NewInt(1), 95)
	for d := int64(-9); d <= 9; d++ {
		n := new(big.Int).Add(end, big.NewInt(d<<31))
		for odd := int64(1); odd < 500; odd += 2 {
			q, r := new(big.Int).QuoRem(n, big.NewInt(odd<<31), new(big.Int))
			if r.Sign() != 0 || !q.IsInt64() {
				continue
			}
			a, b := int(q.Int64()), int(odd<<31)
			compare(t, "Mul", Mul, wantMul, a, b)
			compare(t, "Mul", Mul, wantMul, -a, b)
			compare(t, "Mul", Mul, wantMul, a, -b)
			compare(t, "Mul", Mul, wantMul, -a, -b)
		}
	}
}

func TestP1_3Div(t *testing.T) {
	checkRows(t, "Div", Div, []row{
		{-6 * api.One, 2 * api.One, -3 * api.One, false},
		{1, 1 << 33, 1, false},
		{-1, 1 << 33, 0, false},
		{1, -1 << 33, 0, false},
		{-1, -1 << 33, 1, false},
		{1, 1<<33 + 1, 0, false},
		{-1, 1<<33 - 1, -1, false},
		{3, 1 << 33, 2, false},
		{-3, 1 << 33, -1, false},
		{api.One, 3 * api.One, 1431655765, false},
		{2 * api.One, 3 * api.One, 2863311531, false},
		{0, -5, 0, false},
		{api.MaxFix, api.One, api.MaxFix, false},
		{api.MaxFix, -api.One, -api.MaxFix, false},
		{api.MinFix, api.One, api.MinFix, false},
		{api.MinFix, -api.One, api.MaxFix, true},
		{api.MaxFix, api.MaxFix, api.One, false},
		{api.MinFix, api.MinFix, api.One, false},
		{api.MaxFix, 1, api.MaxFix, true},
		{api.MaxFix, -1, api.MinFix, true},
		{api.MinFix, 1, api.MinFix, true},
		{api.MinFix, -1, api.MaxFix, true},
		{1 << 31, 1, api.MaxFix, true},
		{-1 << 31, 1, api.MinFix, false},
	})
	compareAll(t, "Div", Div, wantDiv)
}

func TestP1_3DivByNought(t *testing.T) {
	checkRows(t, "Div", Div, []row{
		{1, 0, api.MaxFix, true},
		{api.MaxFix, 0, api.MaxFix, true},
		{-1, 0, api.MinFix, true},
		{api.MinFix, 0, api.MinFix, true},
		{0, 0, 0, true},
	})
}

// Quotients near an end: a * 2^32 / b lies near 2^63 where a is near b * 2^31.
func TestP1_3DivNearAnEnd(t *testing.T) {
	for b := 1; b < 3000; b++ {
		for d := -2; d <= 2; d++ {
			a := b<<31 + d
			compare(t, "Div", Div, wantDiv, a, b)
			compare(t, "Div", Div, wantDiv, -a, b)
			compare(t, "Div", Div, wantDiv, a, -b)
			compare(t, "Div", Div, wantDiv, -a, -b)
		}
	}
	for _, b := range []int{1<<32 - 1, 1<<32 - 3, 1<<33 - 1, 1<<33 + 1} {
		for d := range 5 {
			compare(t, "Div", Div, wantDiv, api.MaxFix-d, b)
			compare(t, "Div", Div, wantDiv, api.MinFix+d, b)
		}
	}
}

// Quotients just below 2^64, and just at it, which no 64 bits hold.
func TestP1_3DivJustBelow64Bits(t *testing.T) {
	for b := 1; b < 3000; b++ {
		for d := range 3 {
			a := b<<32 - d
			compare(t, "Div", Div, wantDiv, a, b)
			compare(t, "Div", Div, wantDiv, -a, b)
		}
	}
	for d := range 3000 {
		b := 1<<31 - 1 - d
		compare(t, "Div", Div, wantDiv, b<<32-1, b)
		compare(t, "Div", Div, wantDiv, 1-b<<32, b)
		b = api.MaxFix>>31 - d
		compare(t, "Div", Div, wantDiv, api.MaxFix, b)
		compare(t, "Div", Div, wantDiv, api.MinFix, b)
	}
}

func checkRoot(t *testing.T, a int) {
	t.Helper()
	r, bent := Sqrt(a)
	wide := new(big.Int).Mul(bigOf(a), one)
	next := new(big.Int).Add(bigOf(r), big.NewInt(1))
	if r < 0 || bent || new(big.Int).Mul(bigOf(r), bigOf(r)).Cmp(wide) > 0 || next.Mul(next, next).Cmp(wide) <= 0 {
		t.Fatalf("Sqrt(%d): %d, %v", a, r, bent)
	}
}

func TestP1_4Sqrt(t *testing.T) {
	for a, want := range map[int]int{0: 0, 1: 1 << 16, 2: 92681, api.One: api.One, 2 * api.One: 6074000999, 4 * api.One: 2 * api.One, api.One / 4: api.One / 2, 9*api.One - 1: 3*api.One - 1, api.MaxFix: 199032864766430} {
		if r, bent := Sqrt(a); r != want || bent {
			t.Errorf("Sqrt(%d): %d, %v; wanted %d, false", a, r, bent, want)
		}
	}
	for _, a := range append(edges(), someNumbers(100000)...) {
		if a >= 0 {
			checkRoot(t, a)
		}
	}
	for r := range 3000 {
		square := r * r
		checkRoot(t, square)
		checkRoot(t, square+1)
		checkRoot(t, square<<32)
		checkRoot(t, max(square<<32-1, 0))
	}
}

func TestP1_4SqrtBelowNought(t *testing.T) {
	for _, a := range []int{-1, -2, -api.One, api.MinFix + 1, api.MinFix} {
		if r, bent := Sqrt(a); r != 0 || !bent {
			t.Errorf("Sqrt(%d): %d, %v; wanted 0, true", a, r, bent)
		}
	}
}

func TestP1_5Of(t *testing.T) {
	for _, x := range []struct {
		n, want int
		bent    bool
	}{
		{0, 0, false}, {1, api.One, false}, {-1, -api.One, false}, {5, 5 * api.One, false},
		{1<<31 - 1, (1<<31 - 1) * api.One, false}, {1 << 31, api.MaxFix, true}, {1 << 32, api.MaxFix, true}, {api.MaxFix, api.MaxFix, true},
		{-1 << 31, api.MinFix, false}, {-1<<31 - 1, api.MinFix, true}, {-1 << 32, api.MinFix, true}, {api.MinFix, api.MinFix, true},
	} {
		if a, bent := Of(x.n); a != x.want || bent != x.bent {
			t.Errorf("Of(%d): %d, %v; wanted %d, %v", x.n, a, bent, x.want, x.bent)
		}
	}
	for _, n := range append(edges(), someNumbers(100000)...) {
		want, wantBent := stopped(new(big.Int).Mul(bigOf(n), one))
		if a, bent := Of(n); a != want || bent != wantBent {
			t.Fatalf("Of(%d): %d, %v; wanted %d, %v", n, a, bent, want, wantBent)
		}
	}
}

func TestP1_5Floor(t *testing.T) {
	for a, want := range map[int]int{0: 0, 1: 0, api.One - 1: 0, api.One: 1, 5*api.One + 7: 5, -1: -1, -api.One: -1, -api.One - 1: -2, api.MaxFix: 1<<31 - 1, api.MinFix: -1 << 31, api.MinFix + 1: -1 << 31} {
		if n := Floor(a); n != want {
			t.Errorf("Floor(%d): %d; wanted %d", a, n, want)
		}
	}
	for _, a := range append(edges(), someNumbers(100000)...) {
		want := new(big.Int).Div(bigOf(a), one)
		if n := Floor(a); bigOf(n).Cmp(want) != 0 {
			t.Fatalf("Floor(%d): %d; wanted %d", a, n, want)
		}
	}
}
