package wide_test

import (
	"math"
	"math/big"
	"slices"
	"testing"

	"umbra/api"
	"umbra/wide"
)

var (
	least    = api.Wide{Hi: math.MinInt64}
	greatest = api.Wide{Hi: math.MaxInt64, Lo: math.MaxUint64}
	none     api.Wide
)

// value returns a without bounds: what every result is held against.
func value(a api.Wide) *big.Int {
	v := new(big.Int).Lsh(big.NewInt(a.Hi), 64)
	return v.Add(v, new(big.Int).SetUint64(a.Lo))
}

// wideOf returns v as a wide number, or false if it is none.
func wideOf(v *big.Int) (api.Wide, bool) {
	lo := new(big.Int).And(v, new(big.Int).SetUint64(math.MaxUint64))
	hi := new(big.Int).Rsh(v, 64)
	if !hi.IsInt64() {
		return none, false
	}
	return api.Wide{Hi: hi.Int64(), Lo: lo.Uint64()}, true
}

// floorDiv returns a divided by d, rounded down, and a - q d.
func floorDiv(a, d *big.Int) (q, r *big.Int) {
	q, r = new(big.Int).QuoRem(a, d, new(big.Int))
	if r.Sign() != 0 && r.Sign() != d.Sign() {
		q.Sub(q, big.NewInt(1))
		r.Add(r, d)
	}
	return q, r
}

// draws returns a function that draws numbers of every size, the same ones in
// every run.
func draws() func() uint64 {
	state := uint64(0x9e3779b97f4a7c15)
	next := func() uint64 {
		state ^= state << 13
		state ^= state >> 7
		state ^= state << 17
		return state
	}
	return func() uint64 {
		size := next() % 64
		return next() >> size
	}
}

// smalls returns int64 at and beside the places where something changes, and
// some more.
func smalls() []int64 {
	l := []int64{0, 1, 2, 3, 7, 10, math.MaxInt64, math.MaxInt64 - 1, math.MinInt64, math.MinInt64 + 1}
	for _, n := range []int64{1 << 31, 1 << 32, 1 << 40, 1 << 62} {
		l = append(l, n-1, n, n+1)
	}
	for _, n := range l {
		l = append(l, -n)
	}
	draw := draws()
	for range 40 {
		n := int64(draw())
		l = append(l, n, -n)
	}
	return l
}

// wides returns the same of wide numbers.
func wides() []api.Wide {
	l := []api.Wide{least, greatest, {Hi: math.MinInt64, Lo: 1}, {Hi: math.MinInt64, Lo: math.MaxUint64}, {Hi: math.MaxInt64}, {Hi: math.MaxInt64, Lo: math.MaxUint64 - 1}, {Lo: 1 << 63}, {Lo: 1<<63 + 1}, {Lo: math.MaxUint64}, {Hi: 1}, {Hi: 1, Lo: 1}, {Hi: -1}, {Hi: -1, Lo: 1}, {Hi: -1, Lo: 1<<63 - 1}, {Hi: -2, Lo: math.MaxUint64}, {Hi: 1 << 62}, {Hi: -1 << 62}}
	for _, n := range smalls() {
		l = append(l, wide.Of(n))
	}
	draw := draws()
	for range 60 {
		a := api.Wide{Hi: int64(draw()), Lo: draw()}
		l = append(l, a, api.Wide{Hi: -a.Hi, Lo: a.Lo})
	}
	return l
}

func TestOf(t *testing.T) {
	for n, want := range map[int64]api.Wide{
		0:             {},
		5:             {Lo: 5},
		-1:            {Hi: -1, Lo: math.MaxUint64},
		math.MaxInt64: {Lo: 1<<63 - 1},
		math.MinInt64: {Hi: -1, Lo: 1 << 63},
	} {
		if got := wide.Of(n); got != want {
			t.Errorf("Of(%d) = %v, want %v", n, got, want)
		}
	}
	for _, n := range smalls() {
		if got := value(wide.Of(n)); got.Cmp(big.NewInt(n)) != 0 {
			t.Errorf("Of(%d) is %v", n, got)
		}
	}
}

func TestInt(t *testing.T) {
	for _, a := range []api.Wide{{Lo: 1 << 63}, {Hi: -1, Lo: 1<<63 - 1}, {Hi: 1}, {Hi: -1}, {Hi: -2, Lo: math.MaxUint64}, {Hi: 1, Lo: 7}, least, greatest} {
		if n, ok := wide.Int(a); n != 0 || ok {
			t.Errorf("Int(%v) = %d, %v, want 0, false", a, n, ok)
		}
	}
	for _, n := range smalls() {
		if got, ok := wide.Int(wide.Of(n)); got != n || !ok {
			t.Errorf("Int(Of(%d)) = %d, %v", n, got, ok)
		}
	}
	for _, a := range wides() {
		v := value(a)
		if _, ok := wide.Int(a); ok != v.IsInt64() {
			t.Errorf("Int(%v) is %v", a, ok)
		}
	}
}

func TestMul(t *testing.T) {
	if got := wide.Mul(1<<40, 1<<40); got != (api.Wide{Hi: 1 << 16}) {
		t.Errorf("2^40 2^40 = %v", got)
	}
	if got := wide.Mul(math.MinInt64, math.MinInt64); got != (api.Wide{Hi: 1 << 62}) {
		t.Errorf("2^126 = %v", got)
	}
	for _, a := range smalls() {
		for _, b := range smalls() {
			want := new(big.Int).Mul(big.NewInt(a), big.NewInt(b))
			if got := value(wide.Mul(a, b)); got.Cmp(want) != 0 {
				t.Errorf("Mul(%d, %d) = %v, want %v", a, b, got, want)
			}
		}
	}
}

func TestAddLists(t *testing.T) {
	one, minus := wide.Of(1), wide.Of(-1)
	for _, x := range []struct {
		l    []api.Wide
		want api.Wide
		ok   bool
	}{
		{nil, none, true},
		{[]api.Wide{}, none, true},
		{[]api.Wide{least}, least, true},
		{[]api.Wide{greatest}, greatest, true},
		{[]api.Wide{one, wide.Of(-3), wide.Of(10)}, wide.Of(8), true},
		{[]api.Wide{{Lo: math.MaxUint64}, one}, api.Wide{Hi: 1}, true},
		{[]api.Wide{greatest, least}, minus, true},
		{[]api.Wide{greatest, one}, none, false},
		{[]api.Wide{least, minus}, none, false},
		{[]api.Wide{least, least}, none, false},
		{[]api.Wide{greatest, greatest}, none, false},
		// The whole sum is a wide number, a partial one is not.
		{[]api.Wide{greatest, one, minus}, none, false},
		{[]api.Wide{one, greatest, minus}, none, false},
		{[]api.Wide{greatest, minus, one}, greatest, true},
		{[]api.Wide{least, minus, one}, none, false},
		{[]api.Wide{least, one, minus}, least, true},
		{[]api.Wide{greatest, greatest, least, least}, none, false},
		{[]api.Wide{greatest, least, least, greatest}, none, false},
		{[]api.Wide{greatest, least, greatest, one, one}, none, false},
	} {
		if got, ok := wide.Add(x.l...); got != x.want || ok != x.ok {
			t.Errorf("Add(%v) = %v, %v, want %v, %v", x.l, got, ok, x.want, x.ok)
		}
	}
	if got, ok := wide.Add(); got != none || !ok {
		t.Errorf("Add() = %v, %v", got, ok)
	}
}

func TestAddPairs(t *testing.T) {
	for _, a := range wides() {
		for _, b := range wides() {
			want, fine := wideOf(new(big.Int).Add(value(a), value(b)))
			if got, ok := wide.Add(a, b); got != want || ok != fine {
				t.Errorf("Add(%v, %v) = %v, %v, want %v, %v", a, b, got, ok, want, fine)
			}
		}
	}
}

func TestAddLeavesArguments(t *testing.T) {
	l := []api.Wide{wide.Of(1), wide.Of(2), wide.Of(3), greatest}
	kept := slices.Clone(l)
	// What lies behind the length would make the sum too great.
	if got, ok := wide.Add(l[:3]...); got != wide.Of(6) || !ok {
		t.Errorf("Add = %v, %v", got, ok)
	}
	if !slices.Equal(l, kept) {
		t.Errorf("the arguments are now %v", l)
	}
}

func TestNeg(t *testing.T) {
	if got, ok := wide.Neg(least); got != none || ok {
		t.Errorf("Neg(-2^127) = %v, %v", got, ok)
	}
	for _, a := range wides() {
		want, fine := wideOf(new(big.Int).Neg(value(a)))
		if got, ok := wide.Neg(a); got != want || ok != fine {
			t.Errorf("Neg(%v) = %v, %v, want %v, %v", a, got, ok, want, fine)
		}
	}
}

func TestCmp(t *testing.T) {
	l := []api.Wide{least, {Hi: -1}, wide.Of(math.MinInt64), wide.Of(-1), none, wide.Of(1), wide.Of(math.MaxInt64), {Lo: 1 << 63}, {Lo: math.MaxUint64}, {Hi: 1}, greatest}
	for i, a := range l {
		for j, b := range l {
			want := 0
			if i < j {
				want = -1
			} else if i > j {
				want = 1
			}
			if got := wide.Cmp(a, b); got != want {
				t.Errorf("Cmp(%v, %v) = %d, want %d", a, b, got, want)
			}
		}
	}
	for _, a := range wides() {
		for _, b := range wides() {
			if got, want := wide.Cmp(a, b), value(a).Cmp(value(b)); got != want {
				t.Errorf("Cmp(%v, %v) = %d, want %d", a, b, got, want)
			}
		}
	}
}

func TestSign(t *testing.T) {
	for _, a := range wides() {
		if got, want := wide.Sign(a), value(a).Sign(); got != want {
			t.Errorf("Sign(%v) = %d, want %d", a, got, want)
		}
	}
}

func TestShr(t *testing.T) {
	for _, x := range []struct {
		a    api.Wide
		n    int
		want api.Wide
	}{
		{wide.Of(-5), 1, wide.Of(-3)},
		{wide.Of(5), 1, wide.Of(2)},
		{wide.Of(9), -1, wide.Of(9)},
		{least, math.MinInt, least},
		{api.Wide{Hi: 1}, 64, wide.Of(1)},
		{api.Wide{Hi: 1, Lo: 1 << 63}, 63, wide.Of(3)},
		{greatest, 126, wide.Of(1)},
		{greatest, 127, none},
		{greatest, 128, none},
		{greatest, math.MaxInt, none},
		{least, 127, wide.Of(-1)},
		{least, 128, wide.Of(-1)},
		{wide.Of(-1), 500, wide.Of(-1)},
		{wide.Of(-1), math.MaxInt, wide.Of(-1)},
	} {
		if got := wide.Shr(x.a, x.n); got != x.want {
			t.Errorf("Shr(%v, %d) = %v, want %v", x.a, x.n, got, x.want)
		}
	}
	for _, a := range wides() {
		for n := -3; n < 200; n++ {
			want, _ := wideOf(new(big.Int).Rsh(value(a), uint(max(n, 0))))
			if got := wide.Shr(a, n); got != want {
				t.Errorf("Shr(%v, %d) = %v, want %v", a, n, got, want)
			}
		}
	}
}

func TestDivEdges(t *testing.T) {
	for _, x := range []struct {
		a  api.Wide
		d  int64
		q  api.Wide
		r  int64
		ok bool
	}{
		{wide.Of(7), 2, wide.Of(3), 1, true},
		{wide.Of(-7), 2, wide.Of(-4), 1, true},
		{wide.Of(7), -2, wide.Of(-4), -1, true},
		{wide.Of(-7), -2, wide.Of(3), -1, true},
		{wide.Of(-8), 2, wide.Of(-4), 0, true},
		{wide.Of(8), -2, wide.Of(-4), 0, true},
		{none, -2, none, 0, true},
		{wide.Of(1), math.MinInt64, wide.Of(-1), math.MinInt64 + 1, true},
		{wide.Of(-1), math.MaxInt64, wide.Of(-1), math.MaxInt64 - 1, true},
		{wide.Of(math.MinInt64), math.MinInt64, wide.Of(1), 0, true},
		{least, 1, least, 0, true},
		{least, 2, api.Wide{Hi: -1 << 62}, 0, true},
		{least, -2, api.Wide{Hi: 1 << 62}, 0, true},
		{greatest, -1, api.Wide{Hi: math.MinInt64, Lo: 1}, 0, true},
		{api.Wide{Hi: math.MinInt64, Lo: 1}, -1, greatest, 0, true},
		{least, -1, none, 0, false},
		{least, 0, none, 0, false},
		{greatest, 0, none, 0, false},
		{none, 0, none, 0, false},
		{wide.Of(1), 0, none, 0, false},
	} {
		if q, r, ok := wide.Div(x.a, x.d); q != x.q || r != x.r || ok != x.ok {
			t.Errorf("Div(%v, %d) = %v, %d, %v, want %v, %d, %v", x.a, x.d, q, r, ok, x.q, x.r, x.ok)
		}
	}
}

func TestDiv(t *testing.T) {
	for _, a := range wides() {
		for _, d := range smalls() {
			if d == 0 {
				continue
			}
			q, r := floorDiv(value(a), big.NewInt(d))
			want, fine := wideOf(q)
			rest := r.Int64()
			if !fine {
				rest = 0
			}
			if q, r, ok := wide.Div(a, d); q != want || r != rest || ok != fine {
				t.Errorf("Div(%v, %d) = %v, %d, %v, want %v, %d, %v", a, d, q, r, ok, want, rest, fine)
			}
		}
	}
}

// TestRemainder holds Div against what is promised of every remainder, without
// another division.
func TestRemainder(t *testing.T) {
	for _, a := range wides() {
		for _, d := range smalls() {
			q, r, ok := wide.Div(a, d)
			if !ok {
				continue
			}
			rest, by := big.NewInt(r), big.NewInt(d)
			if r != 0 && rest.Sign() != by.Sign() || rest.CmpAbs(by) >= 0 {
				t.Errorf("Div(%v, %d) has remainder %d", a, d, r)
			}
			back := new(big.Int).Mul(value(q), by)
			if back.Add(back, rest).Cmp(value(a)) != 0 {
				t.Errorf("Div(%v, %d) = %v, %d, which make %v", a, d, q, r, back)
			}
		}
	}
}

func TestMulDivEdges(t *testing.T) {
	for _, x := range []struct{ a, b, c, want int64 }{
		{7, 3, 2, 10},
		{7, -3, 2, -11},
		{7, 3, -2, -11},
		{-7, 3, -2, 10},
		{1, 1, 0, 0},
		{math.MinInt64, math.MinInt64, 0, 0},
		{1 << 40, 1 << 40, 1 << 40, 1 << 40},
		{1 << 62, 1 << 62, 3, math.MaxInt64},
		{1 << 62, 2, 1, math.MaxInt64},
		{1 << 62, -2, 1, math.MinInt64},
		{1 << 62, -3, 1, math.MinInt64},
		{math.MinInt64, 1, -1, math.MaxInt64},
		{math.MinInt64, -1, -1, math.MinInt64},
		{math.MinInt64, math.MinInt64, 1, math.MaxInt64},
		{math.MinInt64, math.MinInt64, -1, math.MinInt64},
		{math.MinInt64, math.MinInt64, math.MinInt64, math.MinInt64},
		{math.MaxInt64, math.MaxInt64, math.MaxInt64, math.MaxInt64},
	} {
		if got := wide.MulDiv(x.a, x.b, x.c); got != x.want {
			t.Errorf("MulDiv(%d, %d, %d) = %d, want %d", x.a, x.b, x.c, got, x.want)
		}
	}
}

func TestMulDiv(t *testing.T) {
	draw := draws()
	l := smalls()
	for _, a := range l {
		for _, b := range l {
			c := l[draw()%uint64(len(l))]
			if c == 0 {
				continue
			}
			q, _ := floorDiv(new(big.Int).Mul(big.NewInt(a), big.NewInt(b)), big.NewInt(c))
			want := int64(math.MaxInt64)
			if q.IsInt64() {
				want = q.Int64()
			} else if q.Sign() < 0 {
				want = math.MinInt64
			}
			if got := wide.MulDiv(a, b, c); got != want {
				t.Errorf("MulDiv(%d, %d, %d) = %d, want %d", a, b, c, got, want)
			}
		}
	}
}

func TestSqrt(t *testing.T) {
	for _, x := range []struct {
		a    api.Wide
		want uint64
	}{
		{none, 0},
		{wide.Of(1), 1},
		{wide.Of(3), 1},
		{wide.Of(4), 2},
		{wide.Of(17), 4},
		{wide.Of(24), 4},
		{wide.Of(25), 5},
		{api.Wide{Hi: 1}, 1 << 32},
		{api.Wide{Lo: math.MaxUint64}, 1<<32 - 1},
		{api.Wide{Hi: 1 << 62}, 1 << 63},
		{greatest, 13043817825332782212},
		{wide.Of(-1), 0},
		{wide.Of(-4), 0},
		{least, 0},
	} {
		if got := wide.Sqrt(x.a); got != x.want {
			t.Errorf("Sqrt(%v) = %d, want %d", x.a, got, x.want)
		}
	}
	for _, a := range wides() {
		if a.Hi < 0 {
			continue
		}
		if got, want := wide.Sqrt(a), new(big.Int).Sqrt(value(a)); !want.IsUint64() || got != want.Uint64() {
			t.Errorf("Sqrt(%v) = %d, want %v", a, got, want)
		}
	}
}

// TestSqrtSquares asks for the roots of squares and of the numbers below them.
func TestSqrtSquares(t *testing.T) {
	draw := draws()
	one := big.NewInt(1)
	for range 500 {
		n := draw()
		root := new(big.Int).SetUint64(n)
		square := root.Mul(root, root)
		a, ok := wideOf(square)
		if !ok || n == 0 {
			continue
		}
		if got := wide.Sqrt(a); got != n {
			t.Errorf("Sqrt(%d^2) = %d", n, got)
		}
		below, _ := wideOf(square.Sub(square, one))
		if got := wide.Sqrt(below); got != n-1 {
			t.Errorf("Sqrt(%d^2 - 1) = %d", n, got)
		}
	}
}
