package vec_test

import (
	"math"
	"math/big"
	"slices"
	"testing"

	"umbra/api"
	"umbra/fix"
	"umbra/vec"
)

const (
	least    api.Fix = math.MinInt64
	greatest api.Fix = math.MaxInt64
	one              = api.One
	half             = api.One / 2
	reach            = 1 << 30
)

var zero api.Vec

// draws returns a function that draws numbers of every size and sign, the same
// ones in every run.
func draws() func() int64 {
	state := uint64(0x9e3779b97f4a7c15)
	next := func() uint64 {
		state ^= state << 13
		state ^= state >> 7
		state ^= state << 17
		return state
	}
	return func() int64 {
		size := next() % 64
		return int64(next()) >> size
	}
}

// vecs returns vectors of components at and beside the places where something
// changes, and some more; the components differ, so that none can stand for
// another.
func vecs() []api.Vec {
	l := []api.Vec{zero, {X: one}, {Y: one}, {Z: one}, {X: -one}, {X: 1}, {Y: -1}, {Z: 1}, {X: greatest, Y: 3, Z: -4}, {X: 5, Y: least, Z: 6}, {X: 7, Y: -8, Z: greatest}, {X: least, Y: greatest, Z: 9}, {X: greatest, Y: greatest, Z: least}, {X: least, Y: least, Z: least}, {X: -half, Y: 3 * half, Z: half + 1}, {X: 1 << 62, Y: -1 << 61, Z: 1 << 62}}
	draw := draws()
	for range 60 {
		l = append(l, api.Vec{X: api.Fix(draw()), Y: api.Fix(draw()), Z: api.Fix(draw())})
	}
	return l
}

// points returns the same of points.
func points() []api.Point {
	l := []api.Point{{X: 3, Y: 4}, {X: 1, Y: 1, Z: 1}, {X: -1, Y: -1, Z: -1}, {X: reach, Y: -reach, Z: reach}, {X: reach - 1, Y: 1, Z: -reach + 1}, {X: reach + 1, Y: 5, Z: -reach - 1}, {X: math.MaxInt, Y: math.MinInt, Z: math.MaxInt}, {X: math.MinInt, Y: 1, Z: -1}}
	draw := draws()
	for range 200 {
		l = append(l, api.Point{X: int(draw()), Y: int(draw()), Z: int(draw())})
	}
	return l
}

// parts returns the components of v.
func parts(v api.Vec) [3]api.Fix {
	return [3]api.Fix{v.X, v.Y, v.Z}
}

// whole returns the vector of whole components.
func whole(x, y, z int) api.Vec {
	return api.Vec{X: fix.Of(x), Y: fix.Of(y), Z: fix.Of(z)}
}

// saturated returns the Fix that is nearest to v.
func saturated(v *big.Int) api.Fix {
	switch {
	case v.IsInt64():
		return api.Fix(v.Int64())
	case v.Sign() < 0:
		return least
	}
	return greatest
}

// floorDiv returns a divided by d, which is positive, rounded down.
func floorDiv(a, d *big.Int) *big.Int {
	// Euclid's division is the one rounded down if the divisor is positive.
	return new(big.Int).Div(a, d)
}

// squares returns the sum of the squares of three numbers, without bounds.
func squares[T ~int | ~int64](l [3]T) *big.Int {
	sum := new(big.Int)
	for _, n := range l {
		b := big.NewInt(int64(n))
		sum.Add(sum, b.Mul(b, b))
	}
	return sum
}

// modelLength is what the document says of Length. A Fix and the sum of the
// squares are both counted in bits, 2^32 and 2^64 of which make 1.
func modelLength(v api.Vec) api.Fix {
	return saturated(new(big.Int).Sqrt(squares(parts(v))))
}

// modelToward is what the document says of Toward.
func modelToward(p api.Point) api.Vec {
	l := [3]int{p.X, p.Y, p.Z}
	for i, n := range l {
		l[i] = min(max(n, -reach), reach)
	}
	sum := squares(l)
	if sum.Sign() == 0 {
		return zero
	}
	root := new(big.Int).Sqrt(sum.Lsh(sum, 64))
	of := func(n int) api.Fix {
		b := big.NewInt(int64(n))
		return saturated(floorDiv(b.Lsh(b, 64), root))
	}
	return api.Vec{X: of(l[0]), Y: of(l[1]), Z: of(l[2])}
}

func TestOf(t *testing.T) {
	for p, want := range map[api.Point]api.Vec{
		{}:                      zero,
		{X: 1, Y: 2, Z: 3}:      {X: one, Y: 2 * one, Z: 3 * one},
		{X: -1, Y: 0, Z: 70000}: {X: -one, Z: 70000 << 32},
		// Components on either side of what a Fix represents.
		{X: 1<<31 - 1, Y: 1 << 31, Z: -1 << 31}:               {X: (1<<31 - 1) << 32, Y: greatest, Z: least},
		{X: -1<<31 - 1, Y: -1<<31 + 1, Z: 1<<31 + 1}:          {X: least, Y: (-1<<31 + 1) << 32, Z: greatest},
		{X: math.MaxInt, Y: math.MinInt, Z: 1 << 32}:          {X: greatest, Y: least, Z: greatest},
		{X: math.MinInt, Y: -7, Z: math.MaxInt}:               {X: least, Y: -7 * one, Z: greatest},
		{X: 5, Y: math.MaxInt - 1, Z: math.MinInt + 1}:        {X: 5 * one, Y: greatest, Z: least},
		{X: -1 << 32, Y: -1 << 63, Z: 1 << 62}:                {X: least, Y: least, Z: greatest},
		{X: api.Grid, Y: -api.Grid, Z: api.MeshGrid}:          {X: 1 << 48, Y: -1 << 48, Z: 1 << 44},
		{X: api.DirMax, Y: -api.DirMax - 1, Z: -api.MeshGrid}: {X: 1 << 46, Y: -1<<46 - one, Z: -1 << 44},
	} {
		if got := vec.Of(p); got != want {
			t.Errorf("Of(%v) = %v, want %v", p, got, want)
		}
	}
	for _, p := range points() {
		if got, want := vec.Of(p), (api.Vec{X: fix.Of(p.X), Y: fix.Of(p.Y), Z: fix.Of(p.Z)}); got != want {
			t.Errorf("Of(%v) = %v, want %v", p, got, want)
		}
	}
}

func TestAddLists(t *testing.T) {
	for _, x := range []struct {
		l    []api.Vec
		want api.Vec
	}{
		{nil, zero},
		{[]api.Vec{}, zero},
		{[]api.Vec{{X: 1, Y: -2, Z: 3}}, api.Vec{X: 1, Y: -2, Z: 3}},
		{[]api.Vec{{X: least, Y: greatest, Z: least}}, api.Vec{X: least, Y: greatest, Z: least}},
		{[]api.Vec{{X: 1, Y: 10, Z: 100}, {X: -3, Y: 20, Z: 300}}, api.Vec{X: -2, Y: 30, Z: 400}},
		{[]api.Vec{{X: greatest, Y: least, Z: 5}, {X: 1, Y: -1, Z: 6}}, api.Vec{X: greatest, Y: least, Z: 11}},
		{[]api.Vec{{X: 5, Y: greatest, Z: least}, {X: 6, Y: greatest, Z: least}}, api.Vec{X: 11, Y: greatest, Z: least}},
		// The whole sum of a component is a Fix, a partial one is not.
		{[]api.Vec{{X: greatest, Y: 1, Z: 2}, {X: 1, Y: 1, Z: 2}, {X: -1, Y: 1, Z: 2}}, api.Vec{X: greatest - 1, Y: 3, Z: 6}},
		{[]api.Vec{{X: 1, Y: least, Z: 2}, {X: 1, Y: -1, Z: 2}, {X: 1, Y: 1, Z: 2}}, api.Vec{X: 3, Y: least + 1, Z: 6}},
		{[]api.Vec{{X: 1, Y: 2, Z: greatest}, {X: 1, Y: 2, Z: 5}, {X: 1, Y: 2, Z: least}}, api.Vec{X: 3, Y: 6, Z: -1}},
		{[]api.Vec{{X: least, Y: greatest, Z: 1}, {X: greatest, Y: least, Z: 1}, {X: least, Y: greatest, Z: 1}, {X: greatest, Y: least, Z: 1}}, api.Vec{X: -1, Y: -2, Z: 4}},
	} {
		if got := vec.Add(x.l...); got != x.want {
			t.Errorf("Add(%v) = %v, want %v", x.l, got, x.want)
		}
	}
	if got := vec.Add(); got != zero {
		t.Errorf("Add() = %v", got)
	}
}

func TestTimesLists(t *testing.T) {
	ones := api.Vec{X: one, Y: one, Z: one}
	for _, x := range []struct {
		l    []api.Vec
		want api.Vec
	}{
		{nil, ones},
		{[]api.Vec{}, ones},
		{[]api.Vec{{X: 1, Y: -2, Z: 3}}, api.Vec{X: 1, Y: -2, Z: 3}},
		{[]api.Vec{{X: least, Y: greatest, Z: 0}}, api.Vec{X: least, Y: greatest}},
		{[]api.Vec{whole(2, -3, 4), whole(5, 6, -7)}, whole(10, -18, -28)},
		{[]api.Vec{{X: 3, Y: -3, Z: -1}, {X: half, Y: half, Z: 1}}, api.Vec{X: 1, Y: -2, Z: -1}},
		{[]api.Vec{{X: least, Y: greatest, Z: least}, {X: -one, Y: greatest, Z: greatest}}, api.Vec{X: greatest, Y: greatest, Z: least}},
		// Each partial product is rounded down.
		{[]api.Vec{{X: 1, Y: 1, Z: -1}, {X: half, Y: 2 * one, Z: half}, {X: 2 * one, Y: half, Z: 2 * one}}, api.Vec{X: 0, Y: 1, Z: -2}},
		// The whole product of a component is a Fix, a partial one is not.
		{[]api.Vec{{X: 1 << 62, Y: 2 * one, Z: one}, {X: 2 * one, Y: 3 * one, Z: one}, {X: half, Y: one, Z: one}}, api.Vec{X: greatest / 2, Y: 6 * one, Z: one}},
		{[]api.Vec{{X: one, Y: -1 << 62, Z: one}, {X: one, Y: 4 * one, Z: one}, {X: one, Y: half, Z: one}}, api.Vec{X: one, Y: -1 << 62, Z: one}},
		{[]api.Vec{{X: one, Y: one, Z: 1 << 62}, {X: one, Y: one, Z: 1 << 62}, {X: one, Y: one, Z: 1}}, api.Vec{X: one, Y: one, Z: 1<<31 - 1}},
		{[]api.Vec{{X: 1 << 62, Y: 1 << 62, Z: 1 << 62}, {X: 1 << 62, Y: 1 << 62, Z: 1 << 62}, {}}, zero},
	} {
		if got := vec.Times(x.l...); got != x.want {
			t.Errorf("Times(%v) = %v, want %v", x.l, got, x.want)
		}
	}
	if got := vec.Times(); got != ones {
		t.Errorf("Times() = %v", got)
	}
}

// TestByParts holds what goes component by component against what layer 2
// makes of each component.
func TestByParts(t *testing.T) {
	l := vecs()
	for i, a := range l {
		for j, b := range l {
			c := l[(7*i+3*j)%len(l)]
			k := l[(5*i+11*j)%len(l)].Y
			p, q, r := parts(a), parts(b), parts(c)
			for _, x := range []struct {
				name string
				got  api.Vec
				want func(i int) api.Fix
			}{
				{"Add of two", vec.Add(a, b), func(i int) api.Fix { return fix.Add(p[i], q[i]) }},
				{"Add of three", vec.Add(a, b, c), func(i int) api.Fix { return fix.Add(p[i], q[i], r[i]) }},
				{"Sub", vec.Sub(a, b), func(i int) api.Fix { return fix.Sub(p[i], q[i]) }},
				{"Scale", vec.Scale(a, k), func(i int) api.Fix { return fix.Mul(p[i], k) }},
				{"Times of two", vec.Times(a, b), func(i int) api.Fix { return fix.Mul(p[i], q[i]) }},
				{"Times of three", vec.Times(a, b, c), func(i int) api.Fix { return fix.Mul(p[i], q[i], r[i]) }},
				{"Lerp", vec.Lerp(a, b, k), func(i int) api.Fix { return fix.Lerp(p[i], q[i], k) }},
			} {
				if want := (api.Vec{X: x.want(0), Y: x.want(1), Z: x.want(2)}); x.got != want {
					t.Errorf("%s: %v, %v, %v, %d: got %v, want %v", x.name, a, b, c, k, x.got, want)
				}
			}
		}
	}
}

func TestSub(t *testing.T) {
	for _, x := range []struct{ a, b, want api.Vec }{
		{whole(1, 2, 3), whole(6, 4, 2), whole(-5, -2, 1)},
		{zero, api.Vec{X: least, Y: greatest, Z: least}, api.Vec{X: greatest, Y: least + 1, Z: greatest}},
		{api.Vec{X: least, Y: greatest, Z: -1}, api.Vec{X: 1, Y: -1, Z: least}, api.Vec{X: least, Y: greatest, Z: greatest}},
		{api.Vec{X: least, Y: greatest, Z: -2}, api.Vec{X: least, Y: greatest, Z: greatest}, api.Vec{Z: least}},
	} {
		if got := vec.Sub(x.a, x.b); got != x.want {
			t.Errorf("Sub(%v, %v) = %v, want %v", x.a, x.b, got, x.want)
		}
	}
}

func TestScale(t *testing.T) {
	for _, x := range []struct {
		v    api.Vec
		k    api.Fix
		want api.Vec
	}{
		{whole(1, -2, 3), fix.Of(4), whole(4, -8, 12)},
		{whole(1, -2, 3), 0, zero},
		{whole(1, -2, 3), -one, whole(-1, 2, -3)},
		{api.Vec{X: 3, Y: -3, Z: 2}, half, api.Vec{X: 1, Y: -2, Z: 1}},
		{api.Vec{X: greatest, Y: least, Z: 1}, 2 * one, api.Vec{X: greatest, Y: least, Z: 2}},
		{api.Vec{X: greatest, Y: least, Z: one}, least, api.Vec{X: least, Y: greatest, Z: least}},
		{zero, greatest, zero},
	} {
		if got := vec.Scale(x.v, x.k); got != x.want {
			t.Errorf("Scale(%v, %d) = %v, want %v", x.v, x.k, got, x.want)
		}
	}
}

func TestLerp(t *testing.T) {
	a, b := whole(2, 0, -4), whole(6, -8, -4)
	for _, x := range []struct {
		a, b api.Vec
		t    api.Fix
		want api.Vec
	}{
		{a, b, 0, a},
		{a, b, one, b},
		{a, b, half, whole(4, -4, -4)},
		{a, b, 2 * one, whole(10, -16, -4)},
		{a, b, -one, whole(-2, 8, -4)},
		{zero, api.Vec{X: 3, Y: -3, Z: 1}, half, api.Vec{X: 1, Y: -2}},
		// The difference, the product and the sum are saturated.
		{api.Vec{X: least, Y: greatest}, api.Vec{X: greatest, Y: least, Z: 1 << 62}, one, api.Vec{X: -1, Y: -1, Z: 1 << 62}},
		{api.Vec{X: least, Y: greatest, Z: -10}, api.Vec{X: greatest, Y: fix.Of(5), Z: 1 << 62}, 4 * one, api.Vec{X: -1, Y: -1, Z: greatest - 10}},
		{api.Vec{X: greatest, Y: least, Z: one}, api.Vec{X: fix.Of(5), Y: fix.Of(5), Z: one}, -one, api.Vec{X: greatest, Y: least, Z: one}},
	} {
		if got := vec.Lerp(x.a, x.b, x.t); got != x.want {
			t.Errorf("Lerp(%v, %v, %d) = %v, want %v", x.a, x.b, x.t, got, x.want)
		}
	}
}

func TestArgumentsStay(t *testing.T) {
	l := []api.Vec{whole(1, 2, 3), whole(2, 3, 4), whole(3, 4, 5), {X: least, Y: least, Z: least}}
	kept := slices.Clone(l)
	// What lies behind the length would change both results.
	if got, want := vec.Add(l[:3]...), whole(6, 9, 12); got != want {
		t.Errorf("Add = %v, want %v", got, want)
	}
	if got, want := vec.Times(l[:3]...), whole(6, 24, 60); got != want {
		t.Errorf("Times = %v, want %v", got, want)
	}
	if !slices.Equal(l, kept) {
		t.Errorf("the arguments are now %v", l)
	}
}

func TestDot(t *testing.T) {
	for _, x := range []struct {
		a, b api.Vec
		want api.Fix
	}{
		{zero, zero, 0},
		{whole(1, 2, 3), whole(4, 5, 6), fix.Of(32)},
		{whole(1, 2, 3), whole(-4, 5, -6), fix.Of(-12)},
		{whole(1, 0, 0), whole(0, 1, 1), 0},
		{api.Vec{X: 1, Y: 1, Z: 1}, api.Vec{X: half, Y: half, Z: half}, 0},
		{api.Vec{X: -1, Y: -1, Z: -1}, api.Vec{X: half, Y: half, Z: half}, -3},
		// Products are saturated before they are added.
		{api.Vec{X: greatest, Y: one}, api.Vec{X: 2 * one, Y: -one}, greatest - one},
		{api.Vec{X: one, Y: least}, api.Vec{X: one, Y: 2 * one}, least + one},
		{api.Vec{X: least, Z: one}, api.Vec{X: least, Z: -7}, greatest - 7},
		{api.Vec{Y: greatest, Z: greatest}, api.Vec{Y: greatest, Z: -greatest}, -1},
		// Partial sums are saturated, in the order of X, Y and Z.
		{api.Vec{X: greatest, Y: greatest, Z: one}, api.Vec{X: one, Y: one, Z: -5}, greatest - 5},
		{api.Vec{X: greatest, Y: one, Z: greatest}, api.Vec{X: one, Y: -5, Z: one}, greatest},
		{api.Vec{X: one, Y: greatest, Z: greatest}, api.Vec{X: -5, Y: one, Z: one}, greatest},
		{api.Vec{X: least, Y: one, Z: one}, api.Vec{X: one, Y: -1, Z: 5}, least + 5},
		{api.Vec{X: one, Y: least, Z: one}, api.Vec{X: 5, Y: one, Z: -5}, least},
		{api.Vec{X: least, Y: least, Z: least}, api.Vec{X: one, Y: one, Z: one}, least},
		{api.Vec{X: least, Y: least, Z: least}, api.Vec{X: least, Y: least, Z: least}, greatest},
	} {
		if got := vec.Dot(x.a, x.b); got != x.want {
			t.Errorf("Dot(%v, %v) = %d, want %d", x.a, x.b, got, x.want)
		}
	}
	for _, a := range vecs() {
		for _, b := range vecs() {
			want := fix.Add(fix.Mul(a.X, b.X), fix.Mul(a.Y, b.Y), fix.Mul(a.Z, b.Z))
			if got := vec.Dot(a, b); got != want {
				t.Errorf("Dot(%v, %v) = %d, want %d", a, b, got, want)
			}
		}
	}
}

func TestCross(t *testing.T) {
	x, y, z := whole(1, 0, 0), whole(0, 1, 0), whole(0, 0, 1)
	for _, x := range []struct{ a, b, want api.Vec }{
		{x, y, z},
		{y, z, x},
		{z, x, y},
		{y, x, whole(0, 0, -1)},
		{whole(1, 2, 3), whole(5, 7, 11), whole(1, 4, -3)},
		{whole(1, 2, 3), whole(-2, -4, -6), zero},
		{whole(1, 2, 3), zero, zero},
		// Both products are rounded down before one is subtracted.
		{api.Vec{Y: 1, Z: 1}, api.Vec{Y: half, Z: -half}, api.Vec{X: -1}},
		{api.Vec{X: 1, Z: 1}, api.Vec{X: -half, Z: half}, api.Vec{Y: -1}},
		{api.Vec{X: 1, Y: 1}, api.Vec{X: half, Y: -half}, api.Vec{Z: -1}},
		// Products are saturated before one is subtracted.
		{api.Vec{Y: greatest, Z: one}, api.Vec{Y: 5, Z: 2 * one}, api.Vec{X: greatest - 5}},
		{api.Vec{X: one, Z: least}, api.Vec{X: 2 * one, Z: -5}, api.Vec{Y: least + 5}},
		{api.Vec{X: greatest, Y: least}, api.Vec{X: greatest, Y: greatest}, api.Vec{Z: greatest}},
		{api.Vec{X: greatest, Y: greatest}, api.Vec{X: 1 << 62, Y: 1 << 62}, zero},
		// The difference is saturated.
		{api.Vec{Y: greatest, Z: one}, api.Vec{Y: -one, Z: one}, api.Vec{X: greatest}},
		{api.Vec{X: one, Z: least}, api.Vec{X: one, Z: one}, api.Vec{Y: least}},
		{api.Vec{X: greatest, Y: least}, api.Vec{X: one, Y: one}, api.Vec{Z: greatest}},
		{api.Vec{X: least, Y: greatest}, api.Vec{X: one, Y: one}, api.Vec{Z: least}},
	} {
		if got := vec.Cross(x.a, x.b); got != x.want {
			t.Errorf("Cross(%v, %v) = %v, want %v", x.a, x.b, got, x.want)
		}
	}
	for _, a := range vecs() {
		for _, b := range vecs() {
			want := api.Vec{
				X: fix.Sub(fix.Mul(a.Y, b.Z), fix.Mul(a.Z, b.Y)),
				Y: fix.Sub(fix.Mul(a.Z, b.X), fix.Mul(a.X, b.Z)),
				Z: fix.Sub(fix.Mul(a.X, b.Y), fix.Mul(a.Y, b.X)),
			}
			if got := vec.Cross(a, b); got != want {
				t.Errorf("Cross(%v, %v) = %v, want %v", a, b, got, want)
			}
		}
	}
}

func TestCrossWithItself(t *testing.T) {
	for _, v := range vecs() {
		if got := vec.Cross(v, v); got != zero {
			t.Errorf("Cross(%v, %v) = %v", v, v, got)
		}
	}
}

func TestMost(t *testing.T) {
	for _, x := range []struct {
		v    api.Vec
		want api.Fix
	}{
		{zero, 0},
		{whole(1, 2, 3), fix.Of(3)},
		{whole(1, -4, 3), fix.Of(4)},
		{whole(-5, -4, 3), fix.Of(5)},
		{whole(-1, -2, -3), fix.Of(3)},
		{api.Vec{X: -1}, 1},
		// The absolute value of the least Fix is saturated.
		{api.Vec{X: least}, greatest},
		{api.Vec{Y: least, Z: 1}, greatest},
		{api.Vec{X: greatest - 1, Y: -5, Z: least}, greatest},
		{api.Vec{X: least, Y: least, Z: least}, greatest},
		{api.Vec{X: least + 1, Y: 5}, greatest},
		{api.Vec{X: least + 2, Y: 5}, greatest - 1},
	} {
		if got := vec.Most(x.v); got != x.want {
			t.Errorf("Most(%v) = %d, want %d", x.v, got, x.want)
		}
	}
	for _, v := range vecs() {
		if got, want := vec.Most(v), max(fix.Abs(v.X), fix.Abs(v.Y), fix.Abs(v.Z)); got != want {
			t.Errorf("Most(%v) = %d, want %d", v, got, want)
		}
	}
}

func TestLength(t *testing.T) {
	for _, x := range []struct {
		v    api.Vec
		want api.Fix
	}{
		{zero, 0},
		{whole(3, 4, 0), fix.Of(5)},
		{whole(-3, 0, 4), fix.Of(5)},
		{whole(2, -3, 6), fix.Of(7)},
		{whole(0, 0, -9), fix.Of(9)},
		{whole(1, 1, 0), 6074000999},
		{whole(1, 1, 1), 7439101573},
		// Of the bits of the components, nothing is lost.
		{api.Vec{X: 1}, 1},
		{api.Vec{Y: -1}, 1},
		{api.Vec{X: 1, Y: 1}, 1},
		{api.Vec{X: 1, Y: 1, Z: 1}, 1},
		{api.Vec{X: 3, Y: 4, Z: 12}, 13},
		{api.Vec{X: 3, Y: 4, Z: -11}, 12},
		// At and beyond the greatest Fix.
		{api.Vec{X: greatest}, greatest},
		{api.Vec{X: 1, Y: greatest}, greatest},
		{api.Vec{Z: least + 1}, greatest},
		{api.Vec{X: least}, greatest},
		{api.Vec{X: least, Y: 1}, greatest},
		{api.Vec{X: 1 << 62, Y: 1 << 62, Z: 1 << 62}, 7987674492471257550},
		{api.Vec{X: -1 << 62, Y: 3 << 61, Z: 1}, 8313835202890157443},
		{api.Vec{X: -1 << 62, Y: 7 << 60}, greatest},
		{api.Vec{X: greatest, Y: greatest}, greatest},
		{api.Vec{X: greatest, Z: least}, greatest},
		{api.Vec{Y: least, Z: least}, greatest},
		{api.Vec{X: greatest, Y: greatest, Z: greatest}, greatest},
		{api.Vec{X: least, Y: least, Z: least}, greatest},
		{api.Vec{X: least, Y: greatest, Z: least}, greatest},
	} {
		if got := vec.Length(x.v); got != x.want {
			t.Errorf("Length(%v) = %d, want %d", x.v, got, x.want)
		}
	}
	for _, v := range vecs() {
		if got, want := vec.Length(v), modelLength(v); got != want {
			t.Errorf("Length(%v) = %d, want %d", v, got, want)
		}
	}
}

// TestLengthIsGreatest holds Length against what is promised of it, without a
// root.
func TestLengthIsGreatest(t *testing.T) {
	for _, v := range vecs() {
		sum, length := squares(parts(v)), big.NewInt(int64(vec.Length(v)))
		if new(big.Int).Mul(length, length).Cmp(sum) > 0 {
			t.Errorf("Length(%v) = %v is too great", v, length)
		}
		next := new(big.Int).Add(length, big.NewInt(1))
		if next.IsInt64() && next.Mul(next, next).Cmp(sum) <= 0 {
			t.Errorf("Length(%v) = %v is too small", v, length)
		}
	}
}

func TestUnit(t *testing.T) {
	for _, x := range []struct{ v, want api.Vec }{
		{zero, zero},
		{whole(7, 0, 0), whole(1, 0, 0)},
		{whole(0, -7, 0), whole(0, -1, 0)},
		{api.Vec{Z: 1}, whole(0, 0, 1)},
		{whole(3, 4, 0), api.Vec{X: 2576980377, Y: 3435973836}},
		// Quotients are rounded down, below 0 too.
		{whole(-3, 4, 0), api.Vec{X: -2576980378, Y: 3435973836}},
		{whole(0, -3, -4), api.Vec{Y: -2576980378, Z: -3435973837}},
		{whole(2, -3, 6), api.Vec{X: 1227133513, Y: -1840700270, Z: 3681400539}},
		// A length that is rounded down makes greater quotients.
		{api.Vec{X: 1, Y: -1, Z: 1}, whole(1, -1, 1)},
		{api.Vec{X: -2, Y: 1}, api.Vec{X: -one, Y: half}},
		// So does one that is saturated.
		{api.Vec{X: greatest}, whole(1, 0, 0)},
		{api.Vec{X: least}, api.Vec{X: -one - 1}},
		{api.Vec{X: greatest, Y: greatest, Z: greatest}, whole(1, 1, 1)},
		{api.Vec{X: least, Y: least, Z: greatest}, api.Vec{X: -one - 1, Y: -one - 1, Z: one}},
		{api.Vec{X: least, Y: -1, Z: 1}, api.Vec{X: -one - 1, Y: -1}},
	} {
		if got := vec.Unit(x.v); got != x.want {
			t.Errorf("Unit(%v) = %v, want %v", x.v, got, x.want)
		}
	}
	for _, v := range vecs() {
		length := modelLength(v)
		want := api.Vec{X: fix.Div(v.X, length), Y: fix.Div(v.Y, length), Z: fix.Div(v.Z, length)}
		if got := vec.Unit(v); got != want {
			t.Errorf("Unit(%v) = %v, want %v", v, got, want)
		}
	}
}

func TestToward(t *testing.T) {
	for _, x := range []struct {
		p    api.Point
		want api.Vec
	}{
		{api.Point{}, zero},
		// Points on one axis.
		{api.Point{X: 1}, whole(1, 0, 0)},
		{api.Point{X: -5}, whole(-1, 0, 0)},
		{api.Point{Y: reach}, whole(0, 1, 0)},
		{api.Point{Y: -reach}, whole(0, -1, 0)},
		{api.Point{Z: math.MaxInt}, whole(0, 0, 1)},
		{api.Point{Z: math.MinInt}, whole(0, 0, -1)},
		// Quotients that are not whole, on either side of 0.
		{api.Point{X: 3, Y: 4}, api.Vec{X: 2576980377, Y: 3435973836}},
		{api.Point{X: -3, Y: 4}, api.Vec{X: -2576980378, Y: 3435973836}},
		{api.Point{Y: 3, Z: -4}, api.Vec{Y: 2576980377, Z: -3435973837}},
		{api.Point{X: 1, Y: 1, Z: 1}, api.Vec{X: 2479700524, Y: 2479700524, Z: 2479700524}},
		{api.Point{X: -1, Y: 1, Z: -1}, api.Vec{X: -2479700525, Y: 2479700524, Z: -2479700525}},
		{api.Point{X: 1, Y: reach}, api.Vec{X: 3, Y: one - 1}},
		{api.Point{X: -1, Y: reach, Z: 1}, api.Vec{X: -4, Y: one - 1, Z: 3}},
		// Components beyond 2^30 on either side count as 2^30.
		{api.Point{X: reach + 1, Y: reach}, api.Vec{X: 3037000499, Y: 3037000499}},
		{api.Point{X: math.MaxInt, Y: 1}, api.Vec{X: one - 1, Y: 3}},
		{api.Point{X: math.MinInt, Y: reach}, api.Vec{X: -3037000500, Y: 3037000499}},
		{api.Point{X: -reach - 1, Y: 5 * reach, Z: math.MinInt}, api.Vec{X: -2479700525, Y: 2479700524, Z: -2479700525}},
	} {
		if want := modelToward(x.p); x.want != want {
			t.Errorf("the test wants %v of Toward(%v), the document %v", x.want, x.p, want)
		}
		if got := vec.Toward(x.p); got != x.want {
			t.Errorf("Toward(%v) = %v, want %v", x.p, got, x.want)
		}
	}
	for _, p := range points() {
		if got, want := vec.Toward(p), modelToward(p); got != want {
			t.Errorf("Toward(%v) = %v, want %v", p, got, want)
		}
	}
}

// TestTowardIsUnit holds the length of what Toward returns against One: the
// quotients are rounded down by less than 1 each, and lie above what they would
// be of the exact root by no more than 1 in all.
func TestTowardIsUnit(t *testing.T) {
	for _, p := range points() {
		if off := fix.Abs(vec.Length(vec.Toward(p)) - one); off > 4 {
			t.Errorf("the length of Toward(%v) is off by %d", p, off)
		}
	}
}
