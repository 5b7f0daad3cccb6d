package vec

import (
	"math/rand"
	"testing"

	"fourwatch/api"
	"fourwatch/fix"
)

const (
	one  = api.One
	half = api.One / 2
	top  = api.MaxFix
	low  = api.MinFix
	// topRoot is the root of the greatest number.
	topRoot = 199032864766430
)

// step is one of chapter 1's operations on two numbers, and what it answers.
type step struct {
	a, b, want int
	bent       bool
}

func addSteps() []step {
	return []step{
		{0, 0, 0, false}, {one, 2 * one, 3 * one, false}, {5, -7, -2, false},
		{top, 0, top, false}, {top - 1, 1, top, false}, {top, 1, top, true}, {1, top, top, true}, {top, top, top, true},
		{low, 0, low, false}, {low + 1, -1, low, false}, {low, -1, low, true}, {-1, low, low, true}, {low, low, low, true},
		{low, top, -1, false}, {top, low, -1, false},
	}
}

func subSteps() []step {
	return []step{
		{0, 0, 0, false}, {one, 3 * one, -2 * one, false}, {5, -7, 12, false},
		{top, 0, top, false}, {top, top, 0, false}, {top, -1, top, true}, {top, low, top, true},
		{low, 0, low, false}, {low, low, 0, false}, {low, 1, low, true}, {low, top, low, true},
		{-1, low, top, false}, {0, low, top, true}, {-1, top, low, false}, {-2, top, low, true},
	}
}

func mulSteps() []step {
	return []step{
		{0, 0, 0, false}, {3 * one, -2 * one, -6 * one, false}, {5, one, 5, false},
		{1, half, 1, false}, {-1, half, 0, false}, {3, half, 2, false}, {-3, half, -1, false}, {1, half - 1, 0, false},
		{top, one, top, false}, {top, one + 1, top, true}, {top, top, top, true}, {top, 0, 0, false},
		{low, one, low, false}, {low, one + 1, low, true}, {low, -one, top, true}, {low, low, top, true}, {low, 0, 0, false},
		{top, low, low, true}, {top, -one, -top, false},
	}
}

// put is v with n in one of its parts.
func put(v api.Vec, part, n int) api.Vec {
	switch part {
	case 0:
		v.X = n
	case 1:
		v.Y = n
	case 2:
		v.Z = n
	}
	return v
}

// rotate is v with its parts moved on by n places.
func rotate(v api.Vec, n int) api.Vec {
	for range n {
		v = api.Vec{X: v.Z, Y: v.X, Z: v.Y}
	}
	return v
}

// someNumbers are numbers of all lengths, the same ones in each run, with ends and noughts among them.
func someNumbers(n int) []int {
	r := rand.New(rand.NewSource(1))
	l := make([]int, n)
	for i := range l {
		switch r.Intn(12) {
		case 0:
			l[i] = []int{0, top, low, one, -one, half}[r.Intn(6)]
		default:
			l[i] = int(r.Uint64()) >> r.Intn(64)
		}
	}
	return l
}

func someVectors(n int) []api.Vec {
	l := someNumbers(3 * n)
	vectors := make([]api.Vec, n)
	for i := range vectors {
		vectors[i] = api.Vec{X: l[3*i], Y: l[3*i+1], Z: l[3*i+2]}
	}
	return vectors
}

type vectorCall func(a, b api.Vec) (api.Vec, bool)

type numberCall func(a, b api.Vec) (int, bool)

func checkVector(t *testing.T, name string, f vectorCall, a, b, want api.Vec, bent bool) {
	t.Helper()
	if got, gotBent := f(a, b); got != want || gotBent != bent {
		t.Errorf("%s(%v, %v): %v, %v; wanted %v, %v", name, a, b, got, gotBent, want, bent)
	}
}

func checkNumber(t *testing.T, name string, f numberCall, a, b api.Vec, want int, bent bool) {
	t.Helper()
	if got, gotBent := f(a, b); got != want || gotBent != bent {
		t.Errorf("%s(%v, %v): %d, %v; wanted %d, %v", name, a, b, got, gotBent, want, bent)
	}
}

// checkParts puts each step in each part, beside a plain step in the other parts; then it puts all threes of neighbouring steps into one vector.
func checkParts(t *testing.T, name string, f vectorCall, plain step, steps []step) {
	t.Helper()
	a := api.Vec{X: plain.a, Y: plain.a, Z: plain.a}
	b := api.Vec{X: plain.b, Y: plain.b, Z: plain.b}
	want := api.Vec{X: plain.want, Y: plain.want, Z: plain.want}
	for i, s := range steps {
		for part := range 3 {
			checkVector(t, name, f, put(a, part, s.a), put(b, part, s.b), put(want, part, s.want), s.bent)
		}
		u, v := steps[(i+1)%len(steps)], steps[(i+2)%len(steps)]
		checkVector(t, name, f, api.Vec{X: s.a, Y: u.a, Z: v.a}, api.Vec{X: s.b, Y: u.b, Z: v.b}, api.Vec{X: s.want, Y: u.want, Z: v.want}, s.bent || u.bent || v.bent)
	}
}

// compareParts holds f against one of chapter 1's operations, part by part.
func compareParts(t *testing.T, name string, f vectorCall, op func(a, b int) (int, bool)) {
	t.Helper()
	l := someVectors(40000)
	for i := 0; i < len(l); i += 2 {
		a, b := l[i], l[i+1]
		x, bentX := op(a.X, b.X)
		y, bentY := op(a.Y, b.Y)
		z, bentZ := op(a.Z, b.Z)
		checkVector(t, name, f, a, b, api.Vec{X: x, Y: y, Z: z}, bentX || bentY || bentZ)
	}
}

func TestP2_1Add(t *testing.T) {
	checkVector(t, "Add", Add, api.Vec{}, api.Vec{}, api.Vec{}, false)
	checkVector(t, "Add", Add, api.Vec{X: one, Y: 2 * one, Z: 3 * one}, api.Vec{X: 4 * one, Y: -5 * one, Z: 6 * one}, api.Vec{X: 5 * one, Y: -3 * one, Z: 9 * one}, false)
	checkParts(t, "Add", Add, step{0, 0, 0, false}, addSteps())
	checkParts(t, "Add", Add, step{7, 5, 12, false}, addSteps())
	compareParts(t, "Add", Add, fix.Add)
}

func TestP2_1Sub(t *testing.T) {
	checkVector(t, "Sub", Sub, api.Vec{}, api.Vec{}, api.Vec{}, false)
	checkVector(t, "Sub", Sub, api.Vec{X: one, Y: 2 * one, Z: 3 * one}, api.Vec{X: 4 * one, Y: -5 * one, Z: 6 * one}, api.Vec{X: -3 * one, Y: 7 * one, Z: -3 * one}, false)
	checkParts(t, "Sub", Sub, step{0, 0, 0, false}, subSteps())
	checkParts(t, "Sub", Sub, step{7, 5, 2, false}, subSteps())
	compareParts(t, "Sub", Sub, fix.Sub)
}

func TestP2_1Scale(t *testing.T) {
	a := api.Vec{X: one, Y: -2 * one, Z: 3 * one}
	if v, bent := Scale(a, -half); v != (api.Vec{X: -half, Y: one, Z: -3 * half}) || bent {
		t.Errorf("Scale: %v, %v", v, bent)
	}
	for _, s := range mulSteps() {
		for part := range 3 {
			if v, bent := Scale(put(api.Vec{}, part, s.a), s.b); v != put(api.Vec{}, part, s.want) || bent != s.bent {
				t.Errorf("Scale of %d in part %d by %d: %v, %v; wanted %d, %v", s.a, part, s.b, v, bent, s.want, s.bent)
			}
		}
	}
	l := someVectors(40000)
	for i := 0; i < len(l); i += 2 {
		a, k := l[i], l[i+1].X
		x, bentX := fix.Mul(a.X, k)
		y, bentY := fix.Mul(a.Y, k)
		z, bentZ := fix.Mul(a.Z, k)
		if v, bent := Scale(a, k); v != (api.Vec{X: x, Y: y, Z: z}) || bent != (bentX || bentY || bentZ) {
			t.Fatalf("Scale(%v, %d): %v, %v; wanted %d %d %d", a, k, v, bent, x, y, z)
		}
	}
}

func TestP2_2Dot(t *testing.T) {
	checkNumber(t, "Dot", Dot, api.Vec{}, api.Vec{}, 0, false)
	checkNumber(t, "Dot", Dot, api.Vec{X: one, Y: 2 * one, Z: 3 * one}, api.Vec{X: 4 * one, Y: -5 * one, Z: 6 * one}, 12*one, false)
	checkNumber(t, "Dot", Dot, api.Vec{X: 2 * one, Y: 3 * one, Z: 5 * one}, api.Vec{X: 7 * one, Y: 11 * one, Z: 13 * one}, 112*one, false)
	for _, s := range mulSteps() {
		for part := range 3 {
			checkNumber(t, "Dot", Dot, put(api.Vec{}, part, s.a), put(api.Vec{}, part, s.b), s.want, s.bent)
		}
	}
}

// Each product is rounded by itself, ahead of the sums.
func TestP2_2DotRoundsEachProduct(t *testing.T) {
	halves := api.Vec{X: half, Y: half, Z: half}
	checkNumber(t, "Dot", Dot, api.Vec{X: 1, Y: 1, Z: 1}, halves, 3, false)
	checkNumber(t, "Dot", Dot, api.Vec{X: -1, Y: -1, Z: -1}, halves, 0, false)
	for part := range 3 {
		checkNumber(t, "Dot", Dot, put(api.Vec{X: -1, Y: -1, Z: -1}, part, 1), halves, 1, false)
	}
}

// X and Y are added first: which sum stops, and what comes of it, hangs on that.
func TestP2_2DotInOrder(t *testing.T) {
	tops := api.Vec{X: top, Y: top, Z: top}
	for _, x := range []struct {
		a, b api.Vec
		want int
		bent bool
	}{
		{tops, api.Vec{X: one, Y: one, Z: -one}, 0, true},
		{tops, api.Vec{X: one, Y: -one, Z: one}, top, false},
		{tops, api.Vec{X: -one, Y: one, Z: one}, top, false},
		{tops, api.Vec{X: -one, Y: -one, Z: one}, -1, true},
		{tops, api.Vec{X: -one, Y: one, Z: -one}, -top, false},
		{tops, api.Vec{X: one, Y: -one, Z: -one}, -top, false},
		{tops, api.Vec{X: one, Z: one}, top, true},
		{tops, api.Vec{Y: one, Z: one}, top, true},
		{tops, api.Vec{X: one, Y: one}, top, true},
		{api.Vec{X: low, Y: low, Z: top}, api.Vec{X: one, Y: one, Z: one}, -1, true},
		{api.Vec{X: low, Y: top, Z: low}, api.Vec{X: one, Y: one, Z: one}, low, true},
		{api.Vec{X: low, Y: top, Z: 1}, api.Vec{X: one, Y: one, Z: one}, 0, false},
		{api.Vec{X: top, Y: 1, Z: -1}, api.Vec{X: one, Y: one, Z: one}, top - 1, true},
		{api.Vec{X: top, Y: -1, Z: 1}, api.Vec{X: one, Y: one, Z: one}, top, false},
		{api.Vec{X: top, Y: -1, Z: 2}, api.Vec{X: one, Y: one, Z: one}, top, true},
		{api.Vec{X: low, Y: 1, Z: -2}, api.Vec{X: one, Y: one, Z: one}, low, true},
		// Products that stop and then take each other away.
		{tops, api.Vec{X: top, Y: low}, -1, true},
		{tops, api.Vec{X: top, Z: low}, -1, true},
		{tops, api.Vec{Y: low, Z: top}, -1, true},
	} {
		checkNumber(t, "Dot", Dot, x.a, x.b, x.want, x.bent)
		checkNumber(t, "Dot", Dot, x.b, x.a, x.want, x.bent)
	}
}

// reckonDot is P2.2 word by word.
func reckonDot(a, b api.Vec) (int, bool) {
	x, bent1 := fix.Mul(a.X, b.X)
	y, bent2 := fix.Mul(a.Y, b.Y)
	z, bent3 := fix.Mul(a.Z, b.Z)
	xy, bent4 := fix.Add(x, y)
	n, bent5 := fix.Add(xy, z)
	return n, bent1 || bent2 || bent3 || bent4 || bent5
}

func TestP2_2DotOfManyVectors(t *testing.T) {
	l := someVectors(80000)
	for i := 0; i < len(l); i += 2 {
		want, bent := reckonDot(l[i], l[i+1])
		checkNumber(t, "Dot", Dot, l[i], l[i+1], want, bent)
	}
}

func TestP2_3Cross(t *testing.T) {
	a, b := api.Vec{X: one, Y: 2 * one, Z: 3 * one}, api.Vec{X: 4 * one, Y: -5 * one, Z: 6 * one}
	checkVector(t, "Cross", Cross, a, b, api.Vec{X: 27 * one, Y: 6 * one, Z: -13 * one}, false)
	checkVector(t, "Cross", Cross, b, a, api.Vec{X: -27 * one, Y: -6 * one, Z: 13 * one}, false)
	checkVector(t, "Cross", Cross, a, a, api.Vec{}, false)
	checkVector(t, "Cross", Cross, a, api.Vec{}, api.Vec{}, false)
	checkVector(t, "Cross", Cross, api.Vec{}, b, api.Vec{}, false)
	checkVector(t, "Cross", Cross, api.Vec{}, api.Vec{}, api.Vec{}, false)
	for n := range 3 {
		x, y, z := rotate(api.Vec{X: one}, n), rotate(api.Vec{Y: one}, n), rotate(api.Vec{Z: one}, n)
		checkVector(t, "Cross", Cross, x, y, z, false)
		checkVector(t, "Cross", Cross, y, x, rotate(api.Vec{Z: -one}, n), false)
	}
}

// Each row tells X of a cross product whose other parts are nought, as neither vector has an X; turned, it tells Y and Z.
func TestP2_3CrossAtTheEdges(t *testing.T) {
	for _, x := range []struct {
		aY, bZ, aZ, bY int
		want           int
		bent           bool
	}{
		// Only the first product, only the second one.
		{top, one, 0, 0, top, false},
		{low, one, 0, 0, low, false},
		{top, 2 * one, 0, 0, top, true},
		{low, 2 * one, 0, 0, low, true},
		{low, -one, 0, 0, top, true},
		{0, 0, top, one, -top, false},
		{0, 0, low, one, top, true},
		{0, 0, top, 2 * one, -top, true},
		{0, 0, low, 2 * one, top, true},
		{0, 0, low, -one, -top, true},
		// Only the difference stops.
		{top, one, -1, one, top, true},
		{low, one, 1, one, low, true},
		{top, one, low, one, top, true},
		{low, one, top, one, low, true},
		{-1, one, low, one, top, false},
		{-1, one, top, one, low, false},
		{-2, one, top, one, low, true},
		{top, one, 1, one, top - 1, false},
		{low, one, -1, one, low + 1, false},
		// Products that stop and then take each other away.
		{top, top, top, top, 0, true},
		{low, top, low, top, 0, true},
		{low, low, top, one, 0, true},
		{top, one, top, top, 0, true},
		{low, one, low, top, 0, true},
		// Each product is rounded by itself, ahead of the difference.
		{1, half, 0, 0, 1, false},
		{-1, half, 0, 0, 0, false},
		{0, 0, 1, half, -1, false},
		{0, 0, -1, half, 0, false},
		{1, half, -1, half, 1, false},
		{-1, half, 1, half, -1, false},
		{1, half, 1, half, 0, false},
	} {
		a, b := api.Vec{Y: x.aY, Z: x.aZ}, api.Vec{Y: x.bY, Z: x.bZ}
		for n := range 3 {
			checkVector(t, "Cross", Cross, rotate(a, n), rotate(b, n), rotate(api.Vec{X: x.want}, n), x.bent)
		}
	}
}

// reckonCross is P2.3 word by word.
func reckonCross(a, b api.Vec) (api.Vec, bool) {
	yz, bent1 := fix.Mul(a.Y, b.Z)
	zy, bent2 := fix.Mul(a.Z, b.Y)
	x, bent3 := fix.Sub(yz, zy)
	zx, bent4 := fix.Mul(a.Z, b.X)
	xz, bent5 := fix.Mul(a.X, b.Z)
	y, bent6 := fix.Sub(zx, xz)
	xy, bent7 := fix.Mul(a.X, b.Y)
	yx, bent8 := fix.Mul(a.Y, b.X)
	z, bent9 := fix.Sub(xy, yx)
	bent := bent1 || bent2 || bent3 || bent4 || bent5 || bent6 || bent7 || bent8 || bent9
	return api.Vec{X: x, Y: y, Z: z}, bent
}

func TestP2_3CrossOfManyVectors(t *testing.T) {
	l := someVectors(80000)
	for i := 0; i < len(l); i += 2 {
		want, bent := reckonCross(l[i], l[i+1])
		checkVector(t, "Cross", Cross, l[i], l[i+1], want, bent)
	}
}

func checkLength(t *testing.T, a api.Vec, want int, bent bool) {
	t.Helper()
	if got, gotBent := Length(a); got != want || gotBent != bent {
		t.Errorf("Length(%v): %d, %v; wanted %d, %v", a, got, gotBent, want, bent)
	}
}

func TestP2_4Length(t *testing.T) {
	checkLength(t, api.Vec{}, 0, false)
	checkLength(t, api.Vec{X: one, Y: one, Z: one}, 7439101573, false)
	for n := range 3 {
		checkLength(t, rotate(api.Vec{X: 2 * one, Y: 3 * one, Z: 6 * one}, n), 7*one, false)
		checkLength(t, rotate(api.Vec{X: -2 * one, Y: 3 * one, Z: -6 * one}, n), 7*one, false)
		checkLength(t, rotate(api.Vec{X: 3 * one, Y: -4 * one}, n), 5*one, false)
	}
}

// The square is rounded ahead of the root, so that small lengths are rough.
func TestP2_4LengthOfOnePart(t *testing.T) {
	for _, x := range []struct {
		n, want int
		bent    bool
	}{
		{one, one, false}, {-one, one, false}, {half, half, false},
		{1, 0, false}, {-1, 0, false}, {46340, 0, false}, {46341, 65536, false}, {-46341, 65536, false}, {65535, 65536, false}, {65536, 65536, false},
		{topRoot - 1, topRoot - 2, false}, {topRoot, topRoot, false}, {topRoot + 1, topRoot, true}, {-topRoot - 1, topRoot, true},
		{top, topRoot, true}, {low, topRoot, true}, {low + 1, topRoot, true},
	} {
		for part := range 3 {
			checkLength(t, put(api.Vec{}, part, x.n), x.want, x.bent)
		}
	}
}

// Each square has its place; their sum has none.
func TestP2_4LengthWhoseSumStops(t *testing.T) {
	for n := range 3 {
		checkLength(t, rotate(api.Vec{X: 40000 * one, Y: 40000 * one}, n), topRoot, true)
		checkLength(t, rotate(api.Vec{X: 46340 * one, Y: 310 * one}, n), topRoot, true)
		checkLength(t, rotate(api.Vec{X: 30000 * one, Y: 30000 * one, Z: 20000 * one}, n), topRoot, true)
	}
	checkLength(t, api.Vec{X: top, Y: low, Z: top}, topRoot, true)
}

func TestP2_4LengthOfManyVectors(t *testing.T) {
	for _, a := range someVectors(40000) {
		square, bentSquare := reckonDot(a, a)
		want, bentRoot := fix.Sqrt(square)
		checkLength(t, a, want, bentSquare || bentRoot)
	}
}

// What one call bent is nothing to the next one.
func TestP2BentIsOfOneCall(t *testing.T) {
	tops, ones := api.Vec{X: top, Y: top, Z: top}, api.Vec{X: one, Y: one, Z: one}
	calls := []func(a api.Vec) bool{
		func(a api.Vec) bool { _, bent := Add(a, a); return bent },
		func(a api.Vec) bool { _, bent := Sub(a, api.Vec{X: -1}); return bent },
		func(a api.Vec) bool { _, bent := Scale(a, 2*one); return bent },
		func(a api.Vec) bool { _, bent := Dot(a, a); return bent },
		func(a api.Vec) bool { _, bent := Cross(a, a); return bent },
		func(a api.Vec) bool { _, bent := Length(a); return bent },
	}
	for i, bent := range calls {
		if bent(ones) || !bent(tops) || bent(ones) {
			t.Errorf("call %d: BENT is not that of its own arguments", i)
		}
	}
}
