package affine_test

import (
	"math"
	"slices"
	"testing"

	"umbra/affine"
	"umbra/api"
	"umbra/fix"
	"umbra/vec"
)

const (
	least    api.Fix = math.MinInt64
	greatest api.Fix = math.MaxInt64
	one              = api.One
	half             = api.One / 2
	// The greatest elements of M, components of T and coordinates.
	maxElement = api.One << 8
	maxMove    = api.One << 17
	grid       = api.Grid * api.One
)

var (
	zero   api.Vec
	origin api.Point
	same   = matrix(1, 0, 0, 0, 1, 0, 0, 0, 1)
)

// whole returns the vector of whole components.
func whole(x, y, z int) api.Vec {
	return api.Vec{X: fix.Of(x), Y: fix.Of(y), Z: fix.Of(z)}
}

// matrix returns the transform of whole elements, row by row, that does not
// move.
func matrix(m ...int) api.Affine {
	var a api.Affine
	for i, n := range m {
		a.M[i] = fix.Of(n)
	}
	return a
}

// moved returns a with T v.
func moved(a api.Affine, v api.Vec) api.Affine {
	a.T = v
	return a
}

// numbers returns Fix at and beside the places where something changes; their
// count is prime, so that every stride goes through all of them.
func numbers() []api.Fix {
	return []api.Fix{0, 1, -1, half, -half, half - 1, -half - 1, one, -one, one + 1, -one + 1, 3 * one, -7 * one, 5*half + 1, maxElement, -maxElement, maxElement + 1, maxMove, -maxMove, -maxMove - 1, grid, -grid, grid + half, -grid - half, 0x123456789abcdef, -0xfedcba98765, 1 << 62, -1 << 62, greatest, greatest - 1, least}
}

// vecs returns vectors of such components; they differ, so that none can stand
// for another.
func vecs() []api.Vec {
	l := numbers()
	var vs []api.Vec
	for i := range l {
		for stride := 1; stride < len(l); stride += 4 {
			vs = append(vs, api.Vec{X: l[i], Y: l[(i+stride)%len(l)], Z: l[(i+3*stride)%len(l)]})
		}
	}
	return vs
}

// transforms returns transforms of such elements.
func transforms() []api.Affine {
	l := numbers()
	as := []api.Affine{{}, same}
	for i := range l {
		for stride := 1; stride < len(l); stride += 6 {
			var a api.Affine
			for j := range a.M {
				a.M[j] = l[(i+j*stride)%len(l)]
			}
			a.T = api.Vec{X: l[(i+9*stride)%len(l)], Y: l[(i+10*stride)%len(l)], Z: l[(i+11*stride)%len(l)]}
			as = append(as, a)
		}
	}
	return as
}

// row returns row i of M.
func row(a api.Affine, i int) api.Vec {
	return api.Vec{X: a.M[3*i], Y: a.M[3*i+1], Z: a.M[3*i+2]}
}

// modelTurn is what the document says of Turn.
func modelTurn(a api.Affine, v api.Vec) api.Vec {
	return api.Vec{X: vec.Dot(row(a, 0), v), Y: vec.Dot(row(a, 1), v), Z: vec.Dot(row(a, 2), v)}
}

// modelThen is what the document says of the composition of f and g.
func modelThen(f, g api.Affine) api.Affine {
	var a api.Affine
	for i := range 3 {
		column := modelTurn(g, api.Vec{X: f.M[i], Y: f.M[3+i], Z: f.M[6+i]})
		a.M[i], a.M[3+i], a.M[6+i] = column.X, column.Y, column.Z
	}
	a.T = vec.Add(modelTurn(g, f.T), g.T)
	return a
}

func TestSame(t *testing.T) {
	a := affine.Same()
	want := api.Affine{M: [9]api.Fix{one, 0, 0, 0, one, 0, 0, 0, one}}
	if a != want {
		t.Fatalf("Same() = %v", a)
	}
	a.M[1], a.T.X = 5, 6
	if got := affine.Same(); got != want {
		t.Errorf("after a result was changed, Same() = %v", got)
	}
}

func TestMove(t *testing.T) {
	for _, v := range vecs() {
		want := api.Affine{M: [9]api.Fix{0: one, 4: one, 8: one}, T: v}
		if got := affine.Move(v); got != want {
			t.Errorf("Move(%v) = %v", v, got)
		}
	}
}

func TestSize(t *testing.T) {
	for _, x := range []struct {
		k       []api.Fix
		x, y, z api.Fix
	}{
		{nil, one, one, one},
		{[]api.Fix{}, one, one, one},
		{[]api.Fix{7}, 7, 7, 7},
		{[]api.Fix{0}, 0, 0, 0},
		{[]api.Fix{least}, least, least, least},
		{[]api.Fix{7, 8}, 7, 7, 7},
		{[]api.Fix{7, 8, 9}, 7, 8, 9},
		{[]api.Fix{greatest, least, -1}, greatest, least, -1},
		{[]api.Fix{0, 0, 0}, 0, 0, 0},
		{[]api.Fix{7, 8, 9, 10}, 7, 8, 9},
		{[]api.Fix{7, 8, 9, 10, 11, 12, 13, 14, 15, 16}, 7, 8, 9},
	} {
		want := api.Affine{M: [9]api.Fix{0: x.x, 4: x.y, 8: x.z}}
		if got := affine.Size(x.k...); got != want {
			t.Errorf("Size(%v) = %v", x.k, got)
		}
	}
	if got := affine.Size(); got != same {
		t.Errorf("Size() = %v", got)
	}
}

func TestAxes(t *testing.T) {
	l := []api.Vec{{X: 1, Y: 2, Z: 3}, {X: 4, Y: 5, Z: 6}, {X: 7, Y: 8, Z: 9}, {X: least, Y: greatest, Z: -12}, {X: 13, Y: 14, Z: 15}, {X: 16}}
	for n, want := range []api.Affine{
		same,
		{M: [9]api.Fix{1, 0, 0, 2, one, 0, 3, 0, one}},
		{M: [9]api.Fix{1, 4, 0, 2, 5, 0, 3, 6, one}},
		{M: [9]api.Fix{1, 4, 7, 2, 5, 8, 3, 6, 9}},
		{M: [9]api.Fix{1, 4, 7, 2, 5, 8, 3, 6, 9}, T: l[3]},
		{M: [9]api.Fix{1, 4, 7, 2, 5, 8, 3, 6, 9}, T: l[3]},
		{M: [9]api.Fix{1, 4, 7, 2, 5, 8, 3, 6, 9}, T: l[3]},
	} {
		if got := affine.Axes(l[:n]...); got != want {
			t.Errorf("Axes of %d = %v, want %v", n, got, want)
		}
	}
	if got := affine.Axes(); got != same {
		t.Errorf("Axes() = %v", got)
	}
	if got := affine.Axes(zero, zero, zero); got != (api.Affine{}) {
		t.Errorf("Axes of zero vectors = %v", got)
	}
}

func TestArgumentsStay(t *testing.T) {
	k := []api.Fix{2, 3, 4, 5}
	l := []api.Vec{whole(1, 2, 3), whole(4, 5, 6), whole(7, 8, 9), whole(10, 11, 12), whole(13, 14, 15)}
	as := []api.Affine{matrix(2, 0, 0, 0, 2, 0, 0, 0, 2), affine.Move(whole(1, 2, 3)), {}, {}}
	keptK, keptL, keptAs := slices.Clone(k), slices.Clone(l), slices.Clone(as)
	// What lies behind the length would change each result.
	if got, want := affine.Size(k[:2]...), affine.Size(2); got != want {
		t.Errorf("Size = %v, want %v", got, want)
	}
	if got := affine.Size(k[:0]...); got != same {
		t.Errorf("Size of none = %v", got)
	}
	for n := range len(l) {
		if got, want := affine.Axes(l[:n]...), affine.Axes(slices.Clip(slices.Clone(l[:n]))...); got != want {
			t.Errorf("Axes of %d = %v, want %v", n, got, want)
		}
	}
	if got, want := affine.Then(as[:2]...), moved(as[0], whole(1, 2, 3)); got != want {
		t.Errorf("Then = %v, want %v", got, want)
	}
	if got := affine.Then(as[:0]...); got != same {
		t.Errorf("Then of none = %v", got)
	}
	if !slices.Equal(k, keptK) || !slices.Equal(l, keptL) || !slices.Equal(as, keptAs) {
		t.Errorf("the arguments are now %v, %v, %v", k, l, as)
	}
}

func TestTurnAndApply(t *testing.T) {
	count := matrix(1, 2, 3, 4, 5, 6, 7, 8, 9)
	for _, x := range []struct {
		a           api.Affine
		v           api.Vec
		turn, apply api.Vec
	}{
		{api.Affine{}, whole(1, 2, 3), zero, zero},
		{moved(api.Affine{}, whole(4, 5, 6)), whole(1, 2, 3), zero, whole(4, 5, 6)},
		{moved(count, whole(5, 5, 5)), zero, zero, whole(5, 5, 5)},
		{moved(count, whole(10, 20, 30)), whole(1, 10, 100), whole(321, 654, 987), whole(331, 674, 1017)},
		{moved(count, whole(-1, -1, -1)), whole(1, 0, -1), whole(-2, -2, -2), whole(-3, -3, -3)},
		// Each product is rounded down.
		{moved(affine.Size(half), api.Vec{X: 1, Y: 1, Z: 1}), api.Vec{X: 3, Y: -3, Z: -1}, api.Vec{X: 1, Y: -2, Z: -1}, api.Vec{X: 2, Y: -1}},
		{api.Affine{M: [9]api.Fix{half, half, half, -half, -half, -half, half, -half, half}}, api.Vec{X: 1, Y: 1, Z: 1}, api.Vec{Y: -3, Z: -1}, api.Vec{Y: -3, Z: -1}},
		// Products are saturated before they are added.
		{api.Affine{M: [9]api.Fix{2 * one, -one, 0, -2 * one, one, 0, 0, 0, least}}, api.Vec{X: greatest, Y: one, Z: least}, api.Vec{X: greatest - one, Y: least + one, Z: greatest}, api.Vec{X: greatest - one, Y: least + one, Z: greatest}},
		// Partial sums of a row are saturated, in the order of its elements.
		{matrix(1, 1, -1, 1, -1, 1, -1, 1, 1), api.Vec{X: greatest, Y: greatest, Z: greatest}, api.Vec{Y: greatest, Z: greatest}, api.Vec{Y: greatest, Z: greatest}},
		{matrix(1, 1, -1, 1, -1, 1, -1, 1, 1), api.Vec{X: least, Y: least, Z: least}, api.Vec{X: -1, Y: least, Z: least}, api.Vec{X: -1, Y: least, Z: least}},
		// T is added to what is saturated, and the sum is saturated too.
		{moved(matrix(1, 1, 0, 0, 1, 0, 0, 0, 1), api.Vec{X: -5, Y: -5, Z: 5}), api.Vec{X: greatest, Y: least, Z: greatest}, api.Vec{X: -1, Y: least, Z: greatest}, api.Vec{X: -6, Y: least, Z: greatest}},
		{moved(matrix(1, 1, 0, 0, 2, 0, 0, 0, 2), api.Vec{X: -5, Y: -5, Z: 5}), api.Vec{X: greatest, Y: greatest, Z: least}, api.Vec{X: greatest, Y: greatest, Z: least}, api.Vec{X: greatest - 5, Y: greatest - 5, Z: least + 5}},
	} {
		if got := affine.Turn(x.a, x.v); got != x.turn {
			t.Errorf("Turn(%v, %v) = %v, want %v", x.a, x.v, got, x.turn)
		}
		if got := affine.Apply(x.a, x.v); got != x.apply {
			t.Errorf("Apply(%v, %v) = %v, want %v", x.a, x.v, got, x.apply)
		}
	}
	for _, a := range transforms() {
		for _, v := range vecs() {
			want := modelTurn(a, v)
			if got := affine.Turn(a, v); got != want {
				t.Errorf("Turn(%v, %v) = %v, want %v", a, v, got, want)
			}
			want = vec.Add(want, a.T)
			if got := affine.Apply(a, v); got != want {
				t.Errorf("Apply(%v, %v) = %v, want %v", a, v, got, want)
			}
		}
	}
}

func TestThen(t *testing.T) {
	double := affine.Size(2 * one)
	step := affine.Move(whole(1, 0, 0))
	quarter := matrix(0, -1, 0, 1, 0, 0, 0, 0, 1) // X becomes Y, Y becomes -X
	tiny := affine.Size(1)
	huge := affine.Size(1 << 62)
	for _, x := range []struct {
		name string
		l    []api.Affine
		want api.Affine
	}{
		{"none", nil, same},
		{"an empty list", []api.Affine{}, same},
		{"scale, move", []api.Affine{double, step}, moved(double, whole(1, 0, 0))},
		{"move, scale", []api.Affine{step, double}, moved(double, whole(2, 0, 0))},
		{"move, turn", []api.Affine{step, quarter}, moved(quarter, whole(0, 1, 0))},
		{"turn, move", []api.Affine{quarter, step}, moved(quarter, whole(1, 0, 0))},
		{"two matrices", []api.Affine{matrix(1, 2, 0, 0, 1, 0, 0, 0, 1), matrix(1, 0, 0, 3, 1, 0, 0, 0, 1)}, matrix(1, 2, 0, 3, 7, 0, 0, 0, 1)},
		{"the same, exchanged", []api.Affine{matrix(1, 0, 0, 3, 1, 0, 0, 0, 1), matrix(1, 2, 0, 0, 1, 0, 0, 0, 1)}, matrix(7, 2, 0, 3, 1, 0, 0, 0, 1)},
		{"scale, move, turn", []api.Affine{double, step, quarter}, moved(matrix(0, -2, 0, 2, 0, 0, 0, 0, 2), whole(0, 1, 0))},
		{"turn, move, scale", []api.Affine{quarter, step, double}, moved(matrix(0, -2, 0, 2, 0, 0, 0, 0, 2), whole(2, 0, 0))},
		{"four moves and turns", []api.Affine{step, quarter, step, quarter}, moved(matrix(-1, 0, 0, 0, -1, 0, 0, 0, 1), whole(-1, 1, 0))},
		// From left to right, a bit is lost, or a number is saturated, that from
		// right to left is not.
		{"a bit lost", []api.Affine{tiny, affine.Size(half), double}, api.Affine{}},
		{"no bit lost", []api.Affine{affine.Size(half), double, tiny}, tiny},
		{"saturated", []api.Affine{huge, double, affine.Size(half)}, affine.Size(greatest / 2)},
		{"not saturated", []api.Affine{double, affine.Size(half), huge}, huge},
	} {
		if got := affine.Then(x.l...); got != x.want {
			t.Errorf("%s: got %v, want %v", x.name, got, x.want)
		}
	}
	if got := affine.Then(); got != same {
		t.Errorf("Then() = %v", got)
	}
}

// TestThenByParts holds Then against the document's words for its columns, and
// against the transforms done one after the other.
func TestThenByParts(t *testing.T) {
	l := transforms()
	for i, f := range l {
		if got := affine.Then(f); got != f {
			t.Errorf("Then(%v) = %v", f, got)
		}
		for j, g := range l {
			want := modelThen(f, g)
			if got := affine.Then(f, g); got != want {
				t.Errorf("Then(%v, %v) = %v, want %v", f, g, got, want)
			}
			h := l[(5*i+3*j)%len(l)]
			want = modelThen(want, h)
			if got := affine.Then(f, g, h); got != want {
				t.Errorf("Then(%v, %v, %v) = %v, want %v", f, g, h, got, want)
			}
		}
	}
	refused := moved(matrix(257, 1, 2, 3, 4, 5, 6, 7, 8), whole(1<<18, 0, 0))
	if affine.Check(refused) != api.ErrArg || affine.Then(refused) != refused {
		t.Errorf("Then of one that Check refuses = %v", affine.Then(refused))
	}
	a, b, c := matrix(1, 2, 3, 4, 5, 6, 7, 8, 10), moved(matrix(0, 1, 0, 0, 0, 1, 1, 0, 0), whole(1, 2, 3)), affine.Move(whole(-5, 6, 7))
	for _, v := range []api.Vec{zero, whole(1, 0, 0), whole(-3, 20, 500)} {
		want := affine.Apply(c, affine.Apply(b, affine.Apply(a, v)))
		if got := affine.Apply(affine.Then(a, b, c), v); got != want {
			t.Errorf("all three applied to %v: %v, one after the other: %v", v, got, want)
		}
	}
}

func TestCheck(t *testing.T) {
	for _, a := range []api.Affine{{}, same, affine.Size(maxElement), affine.Move(whole(1<<17, -1<<17, 1<<17))} {
		if got := affine.Check(a); got != api.OK {
			t.Errorf("Check(%v) = %v", a, got)
		}
	}
	check := func(what string, place int, limit api.Fix, with func(x api.Fix) api.Affine) {
		for _, x := range []struct {
			n    api.Fix
			want api.Errno
		}{
			{limit, api.OK},
			{limit - 1, api.OK},
			{-limit, api.OK},
			{-limit + 1, api.OK},
			{limit + 1, api.ErrArg},
			{-limit - 1, api.ErrArg},
			{greatest, api.ErrArg},
			{least + 1, api.ErrArg},
			{least, api.ErrArg},
		} {
			if got := affine.Check(with(x.n)); got != x.want {
				t.Errorf("Check with %s %d %d = %v, want %v", what, place, x.n, got, x.want)
			}
		}
	}
	for i := range 9 {
		check("element", i, maxElement, func(x api.Fix) api.Affine {
			a := affine.Size(maxElement)
			a.M[i] = x
			return a
		})
	}
	check("component", 0, maxMove, func(x api.Fix) api.Affine { return affine.Move(api.Vec{X: x, Y: maxMove}) })
	check("component", 1, maxMove, func(x api.Fix) api.Affine { return affine.Move(api.Vec{Y: x, Z: -maxMove}) })
	check("component", 2, maxMove, func(x api.Fix) api.Affine { return affine.Move(api.Vec{X: 1, Z: x}) })
}

func TestSnap(t *testing.T) {
	for _, x := range []struct {
		n    api.Fix
		want int
		err  api.Errno
	}{
		{0, 0, api.OK},
		{one, 1, api.OK},
		{-one, -1, api.OK},
		// Halves on either side of 0 are rounded upwards.
		{half - 1, 0, api.OK},
		{half, 1, api.OK},
		{-half - 1, -1, api.OK},
		{-half, 0, api.OK},
		{3 * half, 2, api.OK},
		{-3 * half, -1, api.OK},
		{-3*half - 1, -2, api.OK},
		// At and beyond the grid.
		{grid, api.Grid, api.OK},
		{grid - half - 1, api.Grid - 1, api.OK},
		{grid - half, api.Grid, api.OK},
		{grid + half - 1, api.Grid, api.OK},
		{grid + half, 0, api.ErrGrid},
		{grid + one, 0, api.ErrGrid},
		{-grid, -api.Grid, api.OK},
		{-grid + half, -api.Grid + 1, api.OK},
		{-grid - half, -api.Grid, api.OK},
		{-grid - half - 1, 0, api.ErrGrid},
		{-grid - one, 0, api.ErrGrid},
		{greatest, 0, api.ErrGrid},
		{least, 0, api.ErrGrid},
	} {
		for i, v := range []api.Vec{{X: x.n, Y: 7 * one, Z: -8 * one}, {X: -8 * one, Y: x.n, Z: 7 * one}, {X: 7 * one, Y: -8 * one, Z: x.n}} {
			want := []api.Point{{X: x.want, Y: 7, Z: -8}, {X: -8, Y: x.want, Z: 7}, {X: 7, Y: -8, Z: x.want}}[i]
			if x.err != api.OK {
				want = origin
			}
			if got, err := affine.Snap(v); got != want || err != x.err {
				t.Errorf("Snap(%v) = %v, %v, want %v, %v", v, got, err, want, x.err)
			}
		}
	}
}

func TestPlace(t *testing.T) {
	two := affine.Then(affine.Size(2*one), affine.Move(whole(1, 0, 0)))
	for _, x := range []struct {
		name string
		a    api.Affine
		p    api.Point
		want api.Point
		err  api.Errno
	}{
		{"the document's example", two, api.Point{X: 3, Y: 4, Z: 5}, api.Point{X: 7, Y: 8, Z: 10}, api.OK},
		{"everything at one place", affine.Axes(zero, zero, zero, whole(1, 2, 3)), api.Point{X: 9, Y: 9, Z: 9}, api.Point{X: 1, Y: 2, Z: 3}, api.OK},
		{"rounded after the sum", moved(affine.Size(half), api.Vec{X: half, Y: half - 1, Z: -half - 1}), api.Point{X: 1, Y: 2, Z: -2}, api.Point{X: 1, Y: 1, Z: -2}, api.OK},
		{"half a step", affine.Size(half), api.Point{X: 1, Y: -1, Z: -3}, api.Point{X: 1, Y: 0, Z: -1}, api.OK},
		{"at the bounds", two, api.Point{X: 1<<15 - 1, Y: -1 << 15, Z: 1 << 15}, api.Point{X: 1<<16 - 1, Y: -1 << 16, Z: 1 << 16}, api.OK},
		{"off the grid by X", two, api.Point{X: 1 << 15}, origin, api.ErrGrid},
		{"off the grid by Y", two, api.Point{Y: 1<<15 + 1}, origin, api.ErrGrid},
		{"off the grid by Z", two, api.Point{Z: -1<<15 - 1}, origin, api.ErrGrid},
		{"back to the grid", affine.Move(whole(-1<<17, 0, 0)), api.Point{X: 1<<17 + 5}, api.Point{X: 5}, api.OK},
		// Check's error comes first, also where the result lies off the grid, and
		// where it is on it.
		{"a refused element", matrix(257, 0, 0, 0, 1, 0, 0, 0, 1), api.Point{X: 1}, origin, api.ErrArg},
		{"a refused element, off the grid", matrix(1, 0, 0, -257, 1, 0, 0, 0, 1), api.Point{X: 1 << 16}, origin, api.ErrArg},
		{"a refused move", affine.Move(api.Vec{Z: maxMove + 1}), api.Point{Z: -1 << 17}, origin, api.ErrArg},
		{"a refused move, off the grid", affine.Move(api.Vec{X: least}), origin, origin, api.ErrArg},
		// Components of a place that are saturated: 2^31 less a bit, and -2^31.
		{"saturated", same, api.Point{X: math.MaxInt}, origin, api.ErrGrid},
		{"saturated downwards", same, api.Point{Y: math.MinInt}, origin, api.ErrGrid},
		{"saturated, a bit of each", affine.Size(1), api.Point{X: math.MaxInt, Y: math.MinInt, Z: 1 << 40}, origin, api.OK},
		{"saturated, two bits of each", affine.Size(2), api.Point{X: math.MaxInt, Y: math.MinInt, Z: 1 << 40}, api.Point{X: 1, Y: -1, Z: 1}, api.OK},
		{"saturated, and subtracted", matrix(1, -1, 0, 0, 1, 1, 0, 0, 0), api.Point{X: 1 << 40, Y: 1 << 50, Z: -1 << 60}, origin, api.OK},
		{"nothing of it", api.Affine{}, api.Point{X: math.MaxInt, Y: math.MinInt, Z: 5}, origin, api.OK},
	} {
		if got, err := affine.Place(x.a, x.p); got != x.want || err != x.err {
			t.Errorf("%s: got %v, %v, want %v, %v", x.name, got, err, x.want, x.err)
		}
	}
}

// TestPlaceByParts holds Place against the document's words for it.
func TestPlaceByParts(t *testing.T) {
	seen := map[api.Errno]int{}
	for _, a := range transforms() {
		for _, e := range []int{0, 1, 9} {
			a := moved(a, api.Vec{X: a.T.X >> e, Y: a.T.Y >> e, Z: a.T.Z >> e})
			for i := range a.M {
				a.M[i] >>= 3 * e
			}
			for _, p := range []api.Point{origin, {X: 1, Y: -2, Z: 3}, {X: -4000, Y: 30, Z: 2}, {X: math.MaxInt, Y: math.MinInt, Z: -1}} {
				var want api.Point
				wantErr := affine.Check(a)
				if wantErr == api.OK {
					want, wantErr = affine.Snap(affine.Apply(a, vec.Of(p)))
				}
				seen[wantErr]++
				if got, err := affine.Place(a, p); got != want || err != wantErr {
					t.Errorf("Place(%v, %v) = %v, %v, want %v, %v", a, p, got, err, want, wantErr)
				}
			}
		}
	}
	if seen[api.OK] == 0 || seen[api.ErrArg] == 0 || seen[api.ErrGrid] == 0 {
		t.Errorf("the test leaves out an answer: %v", seen)
	}
}

func TestIdentityChangesNothing(t *testing.T) {
	for _, id := range []api.Affine{affine.Same(), affine.Size(), affine.Size(one), affine.Axes(), affine.Then(), affine.Move(zero)} {
		for _, v := range vecs() {
			if got := affine.Turn(id, v); got != v {
				t.Errorf("Turn(identity, %v) = %v", v, got)
			}
			if got := affine.Apply(id, v); got != v {
				t.Errorf("Apply(identity, %v) = %v", v, got)
			}
		}
		for _, a := range transforms() {
			if before, after := affine.Then(id, a), affine.Then(a, id); before != a || after != a {
				t.Errorf("%v with the identity before it: %v, after it: %v", a, before, after)
			}
		}
		for _, p := range []api.Point{origin, {X: 1, Y: -2, Z: 3}, {X: api.Grid, Y: -api.Grid, Z: api.Grid - 1}} {
			if got, err := affine.Place(id, p); got != p || err != api.OK {
				t.Errorf("Place(identity, %v) = %v, %v", p, got, err)
			}
		}
	}
}

func TestMoveIsExact(t *testing.T) {
	for _, v := range vecs() {
		for _, w := range vecs() {
			if got, want := affine.Apply(affine.Move(v), w), vec.Add(w, v); got != want {
				t.Errorf("%v moved by %v = %v, want %v", w, v, got, want)
			}
		}
	}
	by := []int{0, 1, -1, 40000, -40000, 1 << 16, -1 << 16, 1 << 17, -1 << 17}
	for i, x := range by {
		for j, y := range by {
			z := by[(i+2*j)%len(by)]
			p := api.Point{X: by[j] / 2, Y: z / 2, Z: x / 2}
			want, wantErr := onGrid(api.Point{X: p.X + x, Y: p.Y + y, Z: p.Z + z})
			if got, err := affine.Place(affine.Move(whole(x, y, z)), p); got != want || err != wantErr {
				t.Errorf("%v moved by %d, %d, %d = %v, %v, want %v, %v", p, x, y, z, got, err, want, wantErr)
			}
		}
	}
}

// onGrid returns p, or ErrGrid if it lies off the grid.
func onGrid(p api.Point) (api.Point, api.Errno) {
	for _, n := range []int{p.X, p.Y, p.Z} {
		if n < -api.Grid || n > api.Grid {
			return origin, api.ErrGrid
		}
	}
	return p, api.OK
}

// TestIntegers holds the transforms of integers against integer arithmetic.
func TestIntegers(t *testing.T) {
	elements := []int{0, 1, -1, 2, -3, 17, -256, 256, 5, -100, 31}
	places := []int{0, 1, -1, 3, 255, -256, 1000, -4096, 4096, 20000, -65536, 65536, -7}
	seen := map[api.Errno]int{}
	for i := range elements {
		for stride := range elements {
			var m [9]int
			for j := range m {
				m[j] = elements[(i+j*stride+j*j)%len(elements)]
			}
			a := moved(matrix(m[:]...), whole(m[1]*512, m[5]*512, m[0]*512))
			for k := range places {
				p := api.Point{X: places[k], Y: places[(k+1+stride)%len(places)], Z: places[(k+i)%len(places)]}
				want, wantErr := onGrid(api.Point{
					X: m[0]*p.X + m[1]*p.Y + m[2]*p.Z + m[1]*512,
					Y: m[3]*p.X + m[4]*p.Y + m[5]*p.Z + m[5]*512,
					Z: m[6]*p.X + m[7]*p.Y + m[8]*p.Z + m[0]*512,
				})
				seen[wantErr]++
				if got, err := affine.Place(a, p); got != want || err != wantErr {
					t.Errorf("Place(%v, %v) = %v, %v, want %v, %v", a, p, got, err, want, wantErr)
				}
			}
		}
	}
	if seen[api.OK] < 50 || seen[api.ErrGrid] < 50 {
		t.Errorf("the test leaves out an answer: %v", seen)
	}
}
