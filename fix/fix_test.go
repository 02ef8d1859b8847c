package fix_test

import (
	"math"
	"math/big"
	"slices"
	"testing"

	"umbra/api"
	"umbra/fix"
)

const (
	least    api.Fix = math.MinInt64
	greatest api.Fix = math.MaxInt64
	one              = api.One
	half             = api.One / 2
)

// unit is 2^32, what a Fix is a number of parts of.
var unit = new(big.Int).Lsh(big.NewInt(1), 32)

// value returns the bits of x as a number without bounds.
func value(x api.Fix) *big.Int {
	return big.NewInt(int64(x))
}

// saturated returns the Fix that is nearest to v.
func saturated(v *big.Int) api.Fix {
	switch {
	case v.IsInt64():
		return api.Fix(v.Int64())
	case v.Sign() < 0:
		return least
	}
	return greatest
}

// floorDiv returns a divided by d, rounded down.
func floorDiv(a, d *big.Int) *big.Int {
	q, r := new(big.Int).QuoRem(a, d, new(big.Int))
	if r.Sign() != 0 && r.Sign() != d.Sign() {
		q.Sub(q, big.NewInt(1))
	}
	return q
}

// What the document says of sums, products and quotients of two numbers,
// without bounds on the way.

func modelAdd(a, b api.Fix) api.Fix {
	return saturated(new(big.Int).Add(value(a), value(b)))
}

func modelSub(a, b api.Fix) api.Fix {
	return saturated(new(big.Int).Sub(value(a), value(b)))
}

func modelMul(a, b api.Fix) api.Fix {
	return saturated(floorDiv(new(big.Int).Mul(value(a), value(b)), unit))
}

func modelDiv(a, b api.Fix) api.Fix {
	return saturated(floorDiv(new(big.Int).Mul(value(a), unit), value(b)))
}

// draws returns a function that draws numbers of every size and sign, the same
// ones in every run.
func draws() func() api.Fix {
	state := uint64(0x9e3779b97f4a7c15)
	next := func() uint64 {
		state ^= state << 13
		state ^= state >> 7
		state ^= state << 17
		return state
	}
	return func() api.Fix {
		size := next() % 64
		return api.Fix(next()) >> size
	}
}

// fixes returns numbers at and beside the places where something changes, and
// some more.
func fixes() []api.Fix {
	l := []api.Fix{0, 1, 2, 3, 5, greatest, greatest - 1, least, least + 1, least + 2}
	for _, x := range []api.Fix{half, one, one + half, 2 * one, 3 * one, 1 << 47, 1 << 48, 1 << 62, greatest - one, greatest - half} {
		l = append(l, x-1, x, x+1, -x-1, -x, -x+1)
	}
	draw := draws()
	for range 80 {
		l = append(l, draw())
	}
	return l
}

func TestOf(t *testing.T) {
	for n, want := range map[int]api.Fix{
		0:             0,
		1:             one,
		-1:            -one,
		3:             3 << 32,
		-70000:        -70000 << 32,
		1<<31 - 1:     (1<<31 - 1) << 32,
		1 << 31:       greatest,
		1<<31 + 1:     greatest,
		-1 << 31:      least,
		-1<<31 + 1:    (-1<<31 + 1) << 32,
		-1<<31 - 1:    least,
		1 << 32:       greatest,
		-1 << 32:      least,
		1<<32 + 1:     greatest,
		math.MaxInt64: greatest,
		math.MinInt64: least,
	} {
		if got := fix.Of(n); got != want {
			t.Errorf("Of(%d) = %d, want %d", n, got, want)
		}
	}
	for _, x := range fixes() {
		if got, want := fix.Of(int(x)), saturated(new(big.Int).Mul(value(x), unit)); got != want {
			t.Errorf("Of(%d) = %d, want %d", x, got, want)
		}
	}
}

func TestFloorAndRoundEdges(t *testing.T) {
	for _, x := range []struct {
		x            api.Fix
		floor, round int
	}{
		{0, 0, 0},
		{1, 0, 0},
		{-1, -1, 0},
		{half - 1, 0, 0},
		{half, 0, 1},
		{half + 1, 0, 1},
		{-half - 1, -1, -1},
		{-half, -1, 0},
		{-half + 1, -1, 0},
		{one - 1, 0, 1},
		{one, 1, 1},
		{-one, -1, -1},
		{-one - 1, -2, -1},
		{one + half - 1, 1, 1},
		{one + half, 1, 2},
		{-one - half, -2, -1},
		{-one - half - 1, -2, -2},
		{greatest, 1<<31 - 1, 1 << 31},
		{greatest - half, 1<<31 - 1, 1<<31 - 1},
		{greatest - half + 1, 1<<31 - 1, 1 << 31},
		{least, -1 << 31, -1 << 31},
		{least + half - 1, -1 << 31, -1 << 31},
		{least + half, -1 << 31, -1<<31 + 1},
	} {
		if got := fix.Floor(x.x); got != x.floor {
			t.Errorf("Floor(%d) = %d, want %d", x.x, got, x.floor)
		}
		if got := fix.Round(x.x); got != x.round {
			t.Errorf("Round(%d) = %d, want %d", x.x, got, x.round)
		}
	}
}

func TestFloorAndRound(t *testing.T) {
	for _, x := range fixes() {
		if got, want := fix.Floor(x), floorDiv(value(x), unit); !want.IsInt64() || int64(got) != want.Int64() {
			t.Errorf("Floor(%d) = %d, want %v", x, got, want)
		}
		raised := new(big.Int).Add(value(x), value(half))
		if got, want := fix.Round(x), floorDiv(raised, unit); !want.IsInt64() || int64(got) != want.Int64() {
			t.Errorf("Round(%d) = %d, want %v", x, got, want)
		}
	}
	for _, n := range []int{-1 << 31, -70000, -1, 0, 1, 12345, 1<<31 - 1} {
		if got := fix.Floor(fix.Of(n)); got != n {
			t.Errorf("Floor(Of(%d)) = %d", n, got)
		}
		if got := fix.Round(fix.Of(n)); got != n {
			t.Errorf("Round(Of(%d)) = %d", n, got)
		}
	}
}

func TestAddLists(t *testing.T) {
	for _, x := range []struct {
		l    []api.Fix
		want api.Fix
	}{
		{nil, 0},
		{[]api.Fix{}, 0},
		{[]api.Fix{7}, 7},
		{[]api.Fix{least}, least},
		{[]api.Fix{greatest}, greatest},
		{[]api.Fix{1, -3, 10}, 8},
		{[]api.Fix{greatest, 1}, greatest},
		{[]api.Fix{greatest, greatest}, greatest},
		{[]api.Fix{least, -1}, least},
		{[]api.Fix{least, least}, least},
		{[]api.Fix{greatest, least}, -1},
		{[]api.Fix{least, greatest}, -1},
		// The whole sum is a Fix, a partial one is not.
		{[]api.Fix{greatest, 1, -1}, greatest - 1},
		{[]api.Fix{greatest, -1, 1}, greatest},
		{[]api.Fix{least, -1, 1}, least + 1},
		{[]api.Fix{least, 1, -1}, least},
		{[]api.Fix{greatest, 5, least}, -1},
		{[]api.Fix{least, -5, greatest, 1}, 0},
		{[]api.Fix{greatest, greatest, least, least}, least},
		{[]api.Fix{greatest, least, greatest, least}, -2},
	} {
		if got := fix.Add(x.l...); got != x.want {
			t.Errorf("Add(%v) = %d, want %d", x.l, got, x.want)
		}
	}
	if got := fix.Add(); got != 0 {
		t.Errorf("Add() = %d", got)
	}
}

func TestMulLists(t *testing.T) {
	for _, x := range []struct {
		l    []api.Fix
		want api.Fix
	}{
		{nil, one},
		{[]api.Fix{}, one},
		{[]api.Fix{7}, 7},
		{[]api.Fix{-7}, -7},
		{[]api.Fix{0}, 0},
		{[]api.Fix{least}, least},
		{[]api.Fix{greatest}, greatest},
		{[]api.Fix{fix.Of(3), half}, one + half},
		{[]api.Fix{fix.Of(2), fix.Of(3), fix.Of(-7)}, fix.Of(-42)},
		{[]api.Fix{greatest, one}, greatest},
		{[]api.Fix{least, one}, least},
		{[]api.Fix{least, -one}, greatest},
		{[]api.Fix{greatest, -one}, least + 1},
		{[]api.Fix{greatest, greatest}, greatest},
		{[]api.Fix{least, least}, greatest},
		{[]api.Fix{least, greatest}, least},
		{[]api.Fix{greatest, 0}, 0},
		// A product that is no Fix is rounded down, on both sides of 0.
		{[]api.Fix{1, 1}, 0},
		{[]api.Fix{-1, 1}, -1},
		{[]api.Fix{-1, -1}, 0},
		{[]api.Fix{-1, half}, -1},
		{[]api.Fix{3, half}, 1},
		{[]api.Fix{-3, half}, -2},
		// Each partial product is rounded down, too.
		{[]api.Fix{1, half, 2 * one}, 0},
		{[]api.Fix{1, 2 * one, half}, 1},
		{[]api.Fix{-1, half, 2 * one}, -2},
		{[]api.Fix{-1, half, half, half}, -1},
		// The whole product is a Fix, a partial one is not.
		{[]api.Fix{1 << 62, 2 * one, half}, greatest / 2},
		{[]api.Fix{1 << 62, half, 2 * one}, 1 << 62},
		{[]api.Fix{-1 << 62, 4 * one, half}, -1 << 62},
		{[]api.Fix{1 << 62, 1 << 62, 0}, 0},
		{[]api.Fix{1 << 62, 1 << 62, 1}, 1<<31 - 1},
		{[]api.Fix{greatest, -2 * one, half, -one}, 1 << 62},
	} {
		if got := fix.Mul(x.l...); got != x.want {
			t.Errorf("Mul(%v) = %d, want %d", x.l, got, x.want)
		}
	}
	if got := fix.Mul(); got != one {
		t.Errorf("Mul() = %d", got)
	}
}

// TestListsOfThree holds sums and products of three drawn numbers against what
// pairs of them make.
func TestListsOfThree(t *testing.T) {
	l := fixes()
	for i, a := range l {
		for j, b := range l {
			c := l[(7*i+3*j)%len(l)]
			if got, want := fix.Add(a, b, c), modelAdd(modelAdd(a, b), c); got != want {
				t.Errorf("Add(%d, %d, %d) = %d, want %d", a, b, c, got, want)
			}
			if got, want := fix.Mul(a, b, c), modelMul(modelMul(a, b), c); got != want {
				t.Errorf("Mul(%d, %d, %d) = %d, want %d", a, b, c, got, want)
			}
		}
	}
}

// TestPairs holds what is computed of two numbers against the nearest Fix of
// the result without bounds, and sums and products against those of the
// numbers exchanged.
func TestPairs(t *testing.T) {
	for _, a := range fixes() {
		for _, b := range fixes() {
			if got, want := fix.Add(a, b), modelAdd(a, b); got != want || got != fix.Add(b, a) {
				t.Errorf("Add(%d, %d) = %d, want %d; exchanged %d", a, b, got, want, fix.Add(b, a))
			}
			if got, want := fix.Sub(a, b), modelSub(a, b); got != want {
				t.Errorf("Sub(%d, %d) = %d, want %d", a, b, got, want)
			}
			if got, want := fix.Mul(a, b), modelMul(a, b); got != want || got != fix.Mul(b, a) {
				t.Errorf("Mul(%d, %d) = %d, want %d; exchanged %d", a, b, got, want, fix.Mul(b, a))
			}
			if b == 0 {
				continue
			}
			if got, want := fix.Div(a, b), modelDiv(a, b); got != want {
				t.Errorf("Div(%d, %d) = %d, want %d", a, b, got, want)
			}
		}
	}
}

func TestArgumentsStay(t *testing.T) {
	l := []api.Fix{one, 2 * one, 3 * one, least}
	kept := slices.Clone(l)
	// What lies behind the length would change both results.
	if got := fix.Add(l[:3]...); got != 6*one {
		t.Errorf("Add = %d", got)
	}
	if got := fix.Mul(l[:3]...); got != 6*one {
		t.Errorf("Mul = %d", got)
	}
	if !slices.Equal(l, kept) {
		t.Errorf("the arguments are now %v", l)
	}
}

func TestSubEdges(t *testing.T) {
	for _, x := range []struct{ a, b, want api.Fix }{
		{5, 7, -2},
		{0, least, greatest},
		{-1, least, greatest},
		{-2, least, greatest - 1},
		{least, least, 0},
		{greatest, greatest, 0},
		{greatest, -1, greatest},
		{greatest, least, greatest},
		{least, 1, least},
		{least, greatest, least},
		{0, greatest, least + 1},
		{-1, greatest, least},
		{-2, greatest, least},
		{least, -1, least + 1},
	} {
		if got := fix.Sub(x.a, x.b); got != x.want {
			t.Errorf("Sub(%d, %d) = %d, want %d", x.a, x.b, got, x.want)
		}
	}
}

func TestNegAndAbs(t *testing.T) {
	for _, x := range []struct{ x, neg, abs api.Fix }{
		{0, 0, 0},
		{1, -1, 1},
		{-1, 1, 1},
		{greatest, least + 1, greatest},
		{least + 1, greatest, greatest},
		{least, greatest, greatest},
	} {
		if got := fix.Neg(x.x); got != x.neg {
			t.Errorf("Neg(%d) = %d, want %d", x.x, got, x.neg)
		}
		if got := fix.Abs(x.x); got != x.abs {
			t.Errorf("Abs(%d) = %d, want %d", x.x, got, x.abs)
		}
	}
	for _, x := range fixes() {
		if got, want := fix.Neg(x), saturated(new(big.Int).Neg(value(x))); got != want {
			t.Errorf("Neg(%d) = %d, want %d", x, got, want)
		}
		if got, want := fix.Abs(x), saturated(new(big.Int).Abs(value(x))); got != want {
			t.Errorf("Abs(%d) = %d, want %d", x, got, want)
		}
	}
}

func TestDivEdges(t *testing.T) {
	for _, x := range []struct{ a, b, want api.Fix }{
		{fix.Of(6), fix.Of(3), fix.Of(2)},
		{fix.Of(-1), fix.Of(3), -1431655766},
		{fix.Of(1), fix.Of(3), 1431655765},
		{fix.Of(1), fix.Of(-3), -1431655766},
		{fix.Of(-1), fix.Of(-3), 1431655765},
		{0, one, 0},
		{0, least, 0},
		{1, greatest, 0},
		{-1, greatest, -1},
		{1, least, -1},
		{-1, least, 0},
		{greatest, one, greatest},
		{least, one, least},
		{least, -one, greatest},
		{greatest, -one, least + 1},
		{greatest, half, greatest},
		{least, half, least},
		{greatest, -half, least},
		{least, -half, greatest},
		{one, 1, greatest},
		{-one, 1, least},
		{half - 1, 1, greatest - one + 1},
		{half, 1, greatest},
		{-half, 1, least},
		{-half - 1, 1, least},
		{greatest, 1, greatest},
		{least, -1, greatest},
		{least, least, one},
		{greatest, greatest, one},
		// A divisor of 0.
		{1, 0, greatest},
		{one, 0, greatest},
		{greatest, 0, greatest},
		{0, 0, 0},
		{-1, 0, least},
		{-one, 0, least},
		{least, 0, least},
	} {
		if got := fix.Div(x.a, x.b); got != x.want {
			t.Errorf("Div(%d, %d) = %d, want %d", x.a, x.b, got, x.want)
		}
	}
}

func TestSqrt(t *testing.T) {
	for _, x := range []struct{ a, want api.Fix }{
		{0, 0},
		{1, 1 << 16},
		{half, 3037000499},
		{one, one},
		{one - 1, one - 1},
		{fix.Of(2), 6074000999},
		{fix.Of(4), fix.Of(2)},
		{fix.Of(4) - 1, fix.Of(2) - 1},
		{fix.Of(46340 * 46340), fix.Of(46340)},
		{1 << 62, 1 << 47},
		{greatest, 199032864766430},
		{-1, 0},
		{-one, 0},
		{fix.Of(-4), 0},
		{least, 0},
	} {
		if got := fix.Sqrt(x.a); got != x.want {
			t.Errorf("Sqrt(%d) = %d, want %d", x.a, got, x.want)
		}
	}
	for _, a := range fixes() {
		if a < 0 {
			continue
		}
		want := new(big.Int).Sqrt(new(big.Int).Mul(value(a), unit))
		if got := fix.Sqrt(a); got != saturated(want) {
			t.Errorf("Sqrt(%d) = %d, want %v", a, got, want)
		}
	}
}

func TestClamp(t *testing.T) {
	for _, x := range []struct{ x, lo, hi, want api.Fix }{
		{5, 1, 9, 5},
		{1, 1, 9, 1},
		{9, 1, 9, 9},
		{0, 1, 9, 1},
		{10, 1, 9, 9},
		{-5, -9, -1, -5},
		{4, 4, 4, 4},
		{7, 4, 4, 4},
		{least, -1, 1, -1},
		{greatest, -1, 1, 1},
		{3, least, greatest, 3},
		{least, least, greatest, least},
		{greatest, least, greatest, greatest},
		// With lo above hi, the result is hi.
		{0, 9, 1, 1},
		{5, 9, 1, 1},
		{10, 9, 1, 1},
		{0, greatest, least, least},
	} {
		if got := fix.Clamp(x.x, x.lo, x.hi); got != x.want {
			t.Errorf("Clamp(%d, %d, %d) = %d, want %d", x.x, x.lo, x.hi, got, x.want)
		}
	}
}

func TestLerp(t *testing.T) {
	for _, x := range []struct{ a, b, t, want api.Fix }{
		{fix.Of(2), fix.Of(6), 0, fix.Of(2)},
		{fix.Of(2), fix.Of(6), one, fix.Of(6)},
		{fix.Of(2), fix.Of(6), half, fix.Of(4)},
		{fix.Of(6), fix.Of(2), one / 4, fix.Of(5)},
		{fix.Of(2), fix.Of(6), 2 * one, fix.Of(10)},
		{fix.Of(2), fix.Of(6), -one, fix.Of(-2)},
		{0, 3, half, 1},
		{0, -3, half, -2},
		// The difference, the product and the sum are saturated.
		{least, greatest, one, -1},
		{least, greatest, half, -1<<62 - 1},
		{greatest, least, one, -1},
		{greatest, greatest - 2, greatest, greatest - one},
		{greatest, fix.Of(5), least, greatest},
		{least, fix.Of(5), -one, least},
		{0, 1 << 62, fix.Of(4), greatest},
		{-10, 1 << 62, fix.Of(4), greatest - 10},
	} {
		if got := fix.Lerp(x.a, x.b, x.t); got != x.want {
			t.Errorf("Lerp(%d, %d, %d) = %d, want %d", x.a, x.b, x.t, got, x.want)
		}
	}
	l := fixes()
	for i, a := range l {
		for j, b := range l {
			way := l[(5*i+11*j)%len(l)]
			if got, want := fix.Lerp(a, b, way), modelAdd(a, modelMul(modelSub(b, a), way)); got != want {
				t.Errorf("Lerp(%d, %d, %d) = %d, want %d", a, b, way, got, want)
			}
		}
	}
}

// TestSqrtIsGreatest holds Sqrt against what is promised of it, without another
// root.
func TestSqrtIsGreatest(t *testing.T) {
	square := func(x api.Fix) *big.Int {
		return new(big.Int).Mul(value(x), value(x))
	}
	for _, a := range fixes() {
		if a < 0 {
			continue
		}
		// a and the squares of its root, all in parts of 2^64.
		most, root := new(big.Int).Mul(value(a), unit), fix.Sqrt(a)
		if square(root).Cmp(most) > 0 || square(root+1).Cmp(most) <= 0 {
			t.Errorf("Sqrt(%d) = %d", a, root)
		}
	}
}
