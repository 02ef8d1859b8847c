package octa_test

import (
	"math"
	"math/big"
	"testing"

	"umbra/api"
	"umbra/octa"
	"umbra/vec"
)

const (
	least    api.Fix = math.MinInt64
	greatest api.Fix = math.MaxInt64
	n                = 1 << 14 // the greatest component of a direction
)

var origin api.Point

// code returns the code of u and v.
func code(u, v int) uint32 {
	return uint32(u)<<16 + uint32(v)
}

// draws returns a function that draws numbers of every size and sign, the same
// ones in every run.
func draws() func() int64 {
	state := uint64(0x9e3779b97f4a7c15)
	next := func() uint64 {
		state ^= state << 13
		state ^= state >> 7
		state ^= state << 17
		return state
	}
	return func() int64 {
		size := next() % 64
		return int64(next()) >> size
	}
}

// size returns the absolute value of a number that has one.
func size(x int) int {
	if x < 0 {
		return -x
	}
	return x
}

// signOf returns 1 if x is not negative, and -1 otherwise.
func signOf(x int) int {
	if x < 0 {
		return -1
	}
	return 1
}

// modelDecode is what the document says of Decode.
func modelDecode(c uint32) api.Point {
	u, v := int(c/65536), int(c%65536)
	if u > 2*n {
		u = 2 * n
	}
	if v > 2*n {
		v = 2 * n
	}
	a, b := u-n, v-n
	z := n - size(a) - size(b)
	if z >= 0 {
		return api.Point{X: a, Y: b, Z: z}
	}
	return api.Point{X: signOf(a) * (n - size(b)), Y: signOf(b) * (n - size(a)), Z: z}
}

// modelEncode is what the document says of Encode for a direction.
func modelEncode(d api.Point) uint32 {
	sum := size(d.X) + size(d.Y) + size(d.Z)
	// The quotient of the absolute values is rounded down, so that the one of
	// the numbers is rounded toward zero.
	part := func(x int) int { return signOf(x) * (n * size(x) / sum) }
	a, b := part(d.X), part(d.Y)
	if d.Z >= 0 {
		return code(a+n, b+n)
	}
	return code(signOf(d.X)*(n-size(b))+n, signOf(d.Y)*(n-size(a))+n)
}

// modelPick is what the document says of Pick.
func modelPick(x uint32) api.Point {
	part := func(half uint32) int { return int(half) * (2*n + 1) / 65536 }
	return modelDecode(code(part(x/65536), part(x%65536)))
}

// modelQuant is what the document says of Quant for a vector that is not zero.
func modelQuant(v api.Vec) api.Point {
	most := big.NewInt(int64(vec.Most(v)))
	part := func(x api.Fix) int {
		q := new(big.Int).Mul(big.NewInt(n), big.NewInt(int64(x)))
		// Euclid's division is the one rounded down if the divisor is positive.
		q.Div(q, most)
		if q.Cmp(big.NewInt(-n)) < 0 {
			return -n
		}
		return int(q.Int64())
	}
	return api.Point{X: part(v.X), Y: part(v.Y), Z: part(v.Z)}
}

// modelMay is what the document says of May.
func modelMay(d api.Point) bool {
	for _, x := range [3]int{d.X, d.Y, d.Z} {
		if x > n || x < -n {
			return false
		}
	}
	return d.X != 0 || d.Y != 0 || d.Z != 0
}

// marks returns values of u and v at and beside those where something changes,
// and some between them.
func marks() []int {
	l := []int{0, 1, 2, n - 2, n - 1, n, n + 1, n + 2, 2*n - 2, 2*n - 1, 2 * n, 2*n + 1, 2*n + 2, 3 * n, 1<<16 - 2, 1<<16 - 1}
	for i := 3; i < 1<<16; i += 509 {
		l = append(l, i)
	}
	return l
}

// components returns components of points, some of which no direction has.
func components() []int {
	return []int{0, 1, -1, 2, -2, 3, -5, 77, -78, n / 3, -n / 3, n / 2, -n / 2, n - 1, 1 - n, n, -n, n + 1, -n - 1, 1 << 30, math.MaxInt, math.MinInt, math.MinInt + 1}
}

// points returns all points of such components.
func points() []api.Point {
	var l []api.Point
	for _, x := range components() {
		for _, y := range components() {
			for _, z := range components() {
				l = append(l, api.Point{X: x, Y: y, Z: z})
			}
		}
	}
	return l
}

// eachComponent calls f with p and with the two points in which its components
// have moved on.
func eachComponent(p api.Point, f func(p api.Point)) {
	f(p)
	f(api.Point{X: p.Z, Y: p.X, Z: p.Y})
	f(api.Point{X: p.Y, Y: p.Z, Z: p.X})
}

func TestMay(t *testing.T) {
	for _, d := range []api.Point{
		{X: 1}, {X: -1}, {X: n}, {X: -n}, {X: n - 1}, {X: 1 - n},
		{X: 3, Y: -4, Z: 5}, {X: n, Y: n, Z: n}, {X: -n, Y: -n, Z: -n}, {X: n, Y: -n, Z: 1},
	} {
		eachComponent(d, func(d api.Point) {
			if !octa.May(d) {
				t.Errorf("May(%v) = false", d)
			}
		})
	}
	for _, d := range []api.Point{
		origin,
		{X: n + 1}, {X: -n - 1}, {X: n + 1, Y: 1, Z: 1}, {X: -n - 1, Y: n, Z: -n}, {X: n + 1, Y: -n - 1},
		// The least int has no absolute value; the ones below are what small
		// numbers become in fewer bits.
		{X: math.MinInt}, {X: math.MinInt, Y: 1, Z: 1}, {X: math.MinInt, Y: math.MinInt, Z: math.MinInt},
		{X: math.MinInt + 1}, {X: math.MaxInt}, {X: 1 << 32}, {X: 1<<32 + 1}, {X: 1<<16 + 1}, {X: -1<<32 + 1, Y: 1},
	} {
		eachComponent(d, func(d api.Point) {
			if octa.May(d) {
				t.Errorf("May(%v) = true", d)
			}
		})
	}
	for _, d := range points() {
		if got, want := octa.May(d), modelMay(d); got != want {
			t.Errorf("May(%v) = %v", d, got)
		}
	}
}

func TestDecode(t *testing.T) {
	for _, x := range []struct {
		u, v int
		want api.Point
	}{
		// The middle, the corners and the middles of the sides.
		{n, n, api.Point{Z: n}},
		{0, 0, api.Point{Z: -n}},
		{0, 2 * n, api.Point{Z: -n}},
		{2 * n, 0, api.Point{Z: -n}},
		{2 * n, 2 * n, api.Point{Z: -n}},
		{0, n, api.Point{X: -n}},
		{2 * n, n, api.Point{X: n}},
		{n, 0, api.Point{Y: -n}},
		{n, 2 * n, api.Point{Y: n}},
		// What is above 2N counts as 2N.
		{2*n + 1, n, api.Point{X: n}},
		{1<<16 - 1, n, api.Point{X: n}},
		{n, 2*n + 1, api.Point{Y: n}},
		{n, 1<<16 - 1, api.Point{Y: n}},
		{2*n + 1, n + 1, api.Point{X: n - 1, Z: -1}},
		{n + 1, 2*n + 1, api.Point{Y: n - 1, Z: -1}},
		{1<<16 - 1, n - 1, api.Point{X: n - 1, Z: -1}},
		{n - 1, 1<<16 - 1, api.Point{Y: n - 1, Z: -1}},
		{2*n + 1, 2*n + 1, api.Point{Z: -n}},
		{1<<16 - 1, 1<<16 - 1, api.Point{Z: -n}},
		{1<<16 - 1, 0, api.Point{Z: -n}},
		// z is 0, just above it and just below it; a and b of either sign.
		{n + 5, 2*n - 5, api.Point{X: 5, Y: n - 5}},
		{n - 5, 2*n - 5, api.Point{X: -5, Y: n - 5}},
		{n + 5, 5, api.Point{X: 5, Y: 5 - n}},
		{n - 5, 5, api.Point{X: -5, Y: 5 - n}},
		{n + 5, 2*n - 6, api.Point{X: 5, Y: n - 6, Z: 1}},
		{n - 5, 2*n - 6, api.Point{X: -5, Y: n - 6, Z: 1}},
		{n + 5, 6, api.Point{X: 5, Y: 6 - n, Z: 1}},
		{n - 5, 6, api.Point{X: -5, Y: 6 - n, Z: 1}},
		{n + 5, 2*n - 4, api.Point{X: 4, Y: n - 5, Z: -1}},
		{n - 5, 2*n - 4, api.Point{X: -4, Y: n - 5, Z: -1}},
		{n + 5, 4, api.Point{X: 4, Y: 5 - n, Z: -1}},
		{n - 5, 4, api.Point{X: -4, Y: 5 - n, Z: -1}},
		// a or b is 0: z is not negative then.
		{n, n + 7, api.Point{Y: 7, Z: n - 7}},
		{n, n - 7, api.Point{Y: -7, Z: n - 7}},
		{n + 7, n, api.Point{X: 7, Z: n - 7}},
		{n - 7, n, api.Point{X: -7, Z: n - 7}},
		{n, 1, api.Point{Y: 1 - n, Z: 1}},
		{1, n, api.Point{X: 1 - n, Z: 1}},
		// Far inside of the upper and of the lower faces.
		{n + 100, n - 2000, api.Point{X: 100, Y: -2000, Z: n - 2100}},
		{2*n - 100, 2000, api.Point{X: 2000, Y: -100, Z: 2100 - n}},
		{100, 2*n - 2000, api.Point{X: -2000, Y: 100, Z: 2100 - n}},
		{0, 1, api.Point{X: -1, Z: 1 - n}},
		{1, 0, api.Point{Y: -1, Z: 1 - n}},
	} {
		if got := octa.Decode(code(x.u, x.v)); got != x.want {
			t.Errorf("Decode of %d and %d = %v, want %v", x.u, x.v, got, x.want)
		}
	}
	for _, u := range marks() {
		for _, v := range marks() {
			if got, want := octa.Decode(code(u, v)), modelDecode(code(u, v)); got != want {
				t.Errorf("Decode of %d and %d = %v, want %v", u, v, got, want)
			}
		}
	}
}

func TestEncode(t *testing.T) {
	for _, x := range []struct {
		d    api.Point
		u, v int
	}{
		// The axes.
		{api.Point{X: 1}, 2 * n, n},
		{api.Point{X: -1}, 0, n},
		{api.Point{Y: 1}, n, 2 * n},
		{api.Point{Y: -1}, n, 0},
		{api.Point{Z: 1}, n, n},
		{api.Point{Z: -1}, 2 * n, 2 * n},
		{api.Point{X: n}, 2 * n, n},
		{api.Point{Y: -n}, n, 0},
		{api.Point{Z: -n}, 2 * n, 2 * n},
		// Z is 0.
		{api.Point{X: 1, Y: 1}, n + n/2, n + n/2},
		{api.Point{X: -1, Y: 1}, n - n/2, n + n/2},
		{api.Point{X: 1, Y: -1}, n + n/2, n - n/2},
		{api.Point{X: -n, Y: -n}, n - n/2, n - n/2},
		{api.Point{X: 1, Y: -2}, n + 5461, n - 10922},
		// Quotients are rounded toward zero, here on either side of it.
		{api.Point{X: 1, Y: 1, Z: 1}, n + 5461, n + 5461},
		{api.Point{X: -1, Y: 1, Z: 1}, n - 5461, n + 5461},
		{api.Point{X: 1, Y: -1, Z: 1}, n + 5461, n - 5461},
		{api.Point{X: -n, Y: -n, Z: n}, n - 5461, n - 5461},
		{api.Point{X: 2, Y: -1, Z: 4}, n + 4681, n - 2340},
		{api.Point{X: -2, Y: 1, Z: 4}, n - 4681, n + 2340},
		{api.Point{X: 1, Y: -1, Z: n}, n, n},
		// Z is negative; X and Y have either sign.
		{api.Point{X: 1, Y: 1, Z: -1}, 2*n - 5461, 2*n - 5461},
		{api.Point{X: -1, Y: 1, Z: -1}, 5461, 2*n - 5461},
		{api.Point{X: 1, Y: -1, Z: -1}, 2*n - 5461, 5461},
		{api.Point{X: -n, Y: -n, Z: -n}, 5461, 5461},
		{api.Point{X: 2, Y: -1, Z: -4}, 2*n - 2340, 4681},
		{api.Point{X: -2, Y: 1, Z: -4}, 2340, 2*n - 4681},
		// X or Y is 0, which counts as not negative.
		{api.Point{X: 1, Z: 1}, n + n/2, n},
		{api.Point{X: -1, Z: 1}, n - n/2, n},
		{api.Point{Y: 1, Z: 1}, n, n + n/2},
		{api.Point{Y: -1, Z: 1}, n, n - n/2},
		{api.Point{X: 1, Z: -1}, 2 * n, n + n/2},
		{api.Point{X: -1, Z: -1}, 0, n + n/2},
		{api.Point{Y: 1, Z: -1}, n + n/2, 2 * n},
		{api.Point{Y: -1, Z: -1}, n + n/2, 0},
		// A sign is that of X or Y, also where the quotient is 0.
		{api.Point{X: -1, Z: -n}, 0, 2 * n},
		{api.Point{Y: -1, Z: -n}, 2 * n, 0},
		{api.Point{X: -1, Y: -1, Z: -n}, 0, 0},
		{api.Point{X: 1, Y: 1, Z: -n}, 2 * n, 2 * n},
		{api.Point{X: n, Z: -1}, 2 * n, n + 1},
		{api.Point{X: n, Y: -1, Z: -1}, 2 * n, n - 2},
	} {
		if got, err := octa.Encode(x.d); err != api.OK || got != code(x.u, x.v) {
			t.Errorf("Encode(%v) = %d and %d, %v, want %d and %d", x.d, got>>16, got&0xffff, err, x.u, x.v)
		}
	}
}

func TestEncodeOfWhatIsNoDirection(t *testing.T) {
	for _, d := range []api.Point{origin, {X: n + 1}, {X: -n - 1}, {X: n + 1, Y: 1, Z: -1}, {X: 1, Y: -n - 1, Z: 2}, {X: math.MinInt}, {X: math.MinInt, Y: 1, Z: -1}, {X: math.MinInt, Y: math.MinInt}, {X: math.MaxInt, Y: 1}, {X: 1<<32 + 1}} {
		eachComponent(d, func(d api.Point) {
			if got, err := octa.Encode(d); got != 0 || err != api.ErrArg {
				t.Errorf("Encode(%v) = %d, %v", d, got, err)
			}
		})
	}
	for _, d := range points() {
		want, wantErr := uint32(0), api.ErrArg
		if modelMay(d) {
			want, wantErr = modelEncode(d), api.OK
		}
		if got, err := octa.Encode(d); got != want || err != wantErr {
			t.Errorf("Encode(%v) = %d, %v, want %d, %v", d, got, err, want, wantErr)
		}
	}
}

// TestEncodeIsNear holds what Encode loses of a direction against the rounding
// of its two quotients: the components of the direction that is decoded, to the
// sum of the absolute values of d, are off by less than that sum each, and the
// third one by less than the sum twice.
func TestEncodeIsNear(t *testing.T) {
	draw := draws()
	component := func() int { return int(draw() % (n + 1)) }
	for range 20000 {
		d := api.Point{X: component(), Y: component(), Z: component()}
		if d == origin {
			continue
		}
		c, err := octa.Encode(d)
		if want := modelEncode(d); err != api.OK || c != want {
			t.Errorf("Encode(%v) = %d, %v, want %d", d, c, err, want)
		}
		sum, e := size(d.X)+size(d.Y)+size(d.Z), octa.Decode(c)
		if size(n*d.X-e.X*sum) >= sum || size(n*d.Y-e.Y*sum) >= sum || size(n*d.Z-e.Z*sum) >= 2*sum {
			t.Errorf("Encode(%v) is the code of %v", d, e)
		}
	}
}

// TestDecodeIsDirection holds the results of Decode against the sum N, and
// Decode against Encode.
func TestDecodeIsDirection(t *testing.T) {
	check := func(u, v int) {
		d := octa.Decode(code(u, v))
		if !octa.May(d) || size(d.X)+size(d.Y)+size(d.Z) != n {
			t.Errorf("Decode of %d and %d = %v", u, v, d)
		}
		c, err := octa.Encode(d)
		if again := octa.Decode(c); err != api.OK || again != d {
			t.Errorf("Decode of %d and %d = %v, Encode of that = %d, %v, Decode of that = %v", u, v, d, c, err, again)
		}
	}
	for u := range 1 << 16 {
		for _, v := range []int{0, 1, n - 1, n, n + 1, n + 4321, 2*n - 1, 2 * n, 1<<16 - 1} {
			check(u, v)
			check(v, u)
		}
		// The four edges between the upper and the lower faces, and beside
		// them.
		for off := -1; off <= 1; off++ {
			check(u, (u+n+off)&0xffff)
			check(u, (3*n-u+off)&0xffff)
		}
	}
	for _, u := range marks() {
		for _, v := range marks() {
			check(u, v)
		}
	}
}

func TestPick(t *testing.T) {
	for _, x := range []struct {
		upper, lower int
		want         api.Point
	}{
		{0, 0, api.Point{Z: -n}},
		{1<<16 - 1, 1<<16 - 1, api.Point{Z: -n}},
		{1 << 15, 1 << 15, api.Point{Z: n}},
		// The upper half alone: u goes from 0 to 2N.
		{0, 1 << 15, api.Point{X: -n}},
		{1, 1 << 15, api.Point{X: -n}},
		{2, 1 << 15, api.Point{X: 1 - n, Z: 1}},
		{3, 1 << 15, api.Point{X: 1 - n, Z: 1}},
		{4, 1 << 15, api.Point{X: 2 - n, Z: 2}},
		{1<<15 - 2, 1 << 15, api.Point{X: -1, Z: n - 1}},
		{1<<15 - 1, 1 << 15, api.Point{X: -1, Z: n - 1}},
		// In the middle, one half alone comes to N.
		{1<<15 + 1, 1 << 15, api.Point{X: 1, Z: n - 1}},
		{1<<15 + 2, 1 << 15, api.Point{X: 1, Z: n - 1}},
		{1<<15 + 3, 1 << 15, api.Point{X: 2, Z: n - 2}},
		{1<<16 - 3, 1 << 15, api.Point{X: n - 1, Z: 1}},
		{1<<16 - 2, 1 << 15, api.Point{X: n - 1, Z: 1}},
		{1<<16 - 1, 1 << 15, api.Point{X: n}},
		// The lower half alone.
		{1 << 15, 0, api.Point{Y: -n}},
		{1 << 15, 1, api.Point{Y: -n}},
		{1 << 15, 2, api.Point{Y: 1 - n, Z: 1}},
		{1 << 15, 1<<15 - 1, api.Point{Y: -1, Z: n - 1}},
		{1 << 15, 1<<15 + 1, api.Point{Y: 1, Z: n - 1}},
		{1 << 15, 1<<15 + 2, api.Point{Y: 1, Z: n - 1}},
		{1 << 15, 1<<15 + 3, api.Point{Y: 2, Z: n - 2}},
		{1 << 15, 1<<16 - 2, api.Point{Y: n - 1, Z: 1}},
		{1 << 15, 1<<16 - 1, api.Point{Y: n}},
		// Both.
		{1<<15 + 200, 1<<15 - 4000, api.Point{X: 100, Y: -2000, Z: n - 2100}},
		{200, 1<<16 - 4001, api.Point{X: -2000, Y: 100, Z: 2100 - n}},
	} {
		if got := octa.Pick(code(x.upper, x.lower)); got != x.want {
			t.Errorf("Pick of %d and %d = %v, want %v", x.upper, x.lower, got, x.want)
		}
	}
	for x := range uint32(1 << 16) {
		for _, other := range []uint32{0, 1, 1<<15 - 1, 1 << 15, 40000, 1<<16 - 1} {
			for _, x := range []uint32{x<<16 | other, other<<16 | x} {
				if got, want := octa.Pick(x), modelPick(x); got != want {
					t.Errorf("Pick(%d) = %v, want %v", x, got, want)
				}
			}
		}
	}
}

// TestPickReachesAll looks for each u and each v, and how many halves come to
// it: two, but one in the middle and one at the end.
func TestPickReachesAll(t *testing.T) {
	var us, vs [2*n + 1]int
	for x := range uint32(1 << 16) {
		us[octa.Pick(x<<16|1<<15).X+n]++
		vs[octa.Pick(1<<31|x).Y+n]++
	}
	for i := range us {
		want := 2
		if i == n || i == 2*n {
			want = 1
		}
		if us[i] != want || vs[i] != want {
			t.Errorf("%d halves come to u %d, and %d to v %d", us[i], i, vs[i], i)
		}
	}
}

func TestQuant(t *testing.T) {
	for _, x := range []struct {
		v    api.Vec
		want api.Point
	}{
		{api.Vec{X: 1, Y: -2}, api.Point{X: n / 2, Y: -n}},
		{vec.Of(api.Point{X: 1, Y: -2}), api.Point{X: n / 2, Y: -n}},
		{api.Vec{X: 1}, api.Point{X: n}},
		{api.Vec{Y: -1}, api.Point{Y: -n}},
		{api.Vec{Z: 1 << 40}, api.Point{Z: n}},
		{api.Vec{X: 5, Y: -5, Z: 5}, api.Point{X: n, Y: -n, Z: n}},
		// Quotients are rounded down on either side of 0.
		{api.Vec{X: 3, Y: 1, Z: -1}, api.Point{X: n, Y: 5461, Z: -5462}},
		{api.Vec{X: -1, Y: -3, Z: 1}, api.Point{X: -5462, Y: -n, Z: 5461}},
		{api.Vec{X: 2, Y: -2, Z: -3}, api.Point{X: 10922, Y: -10923, Z: -n}},
		{api.Vec{X: 1, Y: -1, Z: n + 1}, api.Point{X: 0, Y: -1, Z: n}},
		{api.Vec{X: 1, Y: -1, Z: n}, api.Point{X: 1, Y: -1, Z: n}},
		{api.Vec{X: api.One, Y: api.One - 1, Z: 1 - api.One}, api.Point{X: n, Y: n - 1, Z: -n}},
		// The greatest and the least Fix. The absolute value of the least one is
		// saturated, so that it would come below -N.
		{api.Vec{X: greatest}, api.Point{X: n}},
		{api.Vec{X: greatest, Y: 1, Z: -1}, api.Point{X: n, Z: -1}},
		{api.Vec{X: greatest, Y: greatest - 1, Z: -greatest}, api.Point{X: n, Y: n - 1, Z: -n}},
		{api.Vec{X: least}, api.Point{X: -n}},
		{api.Vec{Y: least}, api.Point{Y: -n}},
		{api.Vec{Z: least}, api.Point{Z: -n}},
		{api.Vec{X: least, Y: greatest, Z: least + 1}, api.Point{X: -n, Y: n, Z: -n}},
		{api.Vec{X: least, Y: 1, Z: -1}, api.Point{X: -n, Z: -1}},
		{api.Vec{X: least, Y: 1 << 62, Z: -1 << 62}, api.Point{X: -n, Y: n / 2, Z: -n/2 - 1}},
		{api.Vec{X: least, Y: least, Z: least}, api.Point{X: -n, Y: -n, Z: -n}},
		{api.Vec{X: least + 2, Y: least + 1}, api.Point{X: -n, Y: -n}},
	} {
		if got, err := octa.Quant(x.v); err != api.OK || got != x.want {
			t.Errorf("Quant(%v) = %v, %v, want %v", x.v, got, err, x.want)
		}
	}
	if got, err := octa.Quant(api.Vec{}); got != origin || err != api.ErrArg {
		t.Errorf("Quant of the zero vector = %v, %v", got, err)
	}
}

// vecs returns vectors of components of every size and sign.
func vecs() []api.Vec {
	special := []api.Fix{0, 1, -1, api.One, -api.One, 1 << 62, -1 << 62, greatest, greatest - 1, -greatest, least}
	var l []api.Vec
	for _, x := range special {
		for _, y := range special {
			for _, z := range special {
				l = append(l, api.Vec{X: x, Y: y, Z: z})
			}
		}
	}
	draw := draws()
	for range 5000 {
		l = append(l, api.Vec{X: api.Fix(draw()), Y: api.Fix(draw()), Z: api.Fix(draw())})
	}
	return l
}

func TestQuantOfMany(t *testing.T) {
	for _, v := range vecs() {
		if v == (api.Vec{}) {
			continue
		}
		got, err := octa.Quant(v)
		if want := modelQuant(v); err != api.OK || got != want {
			t.Errorf("Quant(%v) = %v, %v, want %v", v, got, err, want)
		}
		if most := max(size(got.X), size(got.Y), size(got.Z)); most != n || !octa.May(got) {
			t.Errorf("Quant(%v) = %v", v, got)
		}
	}
}

func TestDotAndFacing(t *testing.T) {
	for _, x := range []struct {
		d, n   api.Point
		dot    int
		facing api.Point
	}{
		{api.Point{X: 1, Y: 2, Z: 3}, api.Point{X: 4, Y: 5, Z: 6}, 32, api.Point{X: 1, Y: 2, Z: 3}},
		{api.Point{X: 1, Y: 2, Z: 3}, api.Point{X: -4, Y: -5, Z: -6}, -32, api.Point{X: -1, Y: -2, Z: -3}},
		{api.Point{X: -7, Y: 0, Z: 5}, api.Point{X: 1, Y: 9}, -7, api.Point{X: 7, Z: -5}},
		{api.Point{X: 9, Y: -7, Z: 5}, api.Point{Y: 1}, -7, api.Point{X: -9, Y: 7, Z: -5}},
		{api.Point{X: 9, Y: 7, Z: -5}, api.Point{Z: 1}, -5, api.Point{X: -9, Y: -7, Z: 5}},
		{api.Point{Z: -1}, api.Point{Z: 1}, -1, api.Point{Z: 1}},
		{api.Point{X: n, Y: n, Z: n}, api.Point{X: n, Y: n, Z: n}, 3 * n * n, api.Point{X: n, Y: n, Z: n}},
		{api.Point{X: -n, Y: -n, Z: -n}, api.Point{X: n, Y: n, Z: n}, -3 * n * n, api.Point{X: n, Y: n, Z: n}},
		// The sum is 0.
		{origin, origin, 0, origin},
		{origin, api.Point{X: 1, Y: -2, Z: 3}, 0, origin},
		{api.Point{X: 1, Y: -2, Z: 3}, origin, 0, api.Point{X: 1, Y: -2, Z: 3}},
		{api.Point{X: -1}, api.Point{Y: 1, Z: -1}, 0, api.Point{X: -1}},
		{api.Point{X: -1, Y: 2, Z: -1}, api.Point{X: 1, Y: 1, Z: 1}, 0, api.Point{X: -1, Y: 2, Z: -1}},
		// The sum wraps around: past the greatest int, past the least one, and
		// to 0.
		{api.Point{X: math.MaxInt, Y: 1}, api.Point{X: 1, Y: 1}, math.MinInt, api.Point{X: -math.MaxInt, Y: -1}},
		{api.Point{X: math.MaxInt, Y: 5, Z: 1}, api.Point{X: 1, Z: 1}, math.MinInt, api.Point{X: -math.MaxInt, Y: -5, Z: -1}},
		{api.Point{X: math.MinInt, Z: -1}, api.Point{X: 1, Z: 1}, math.MaxInt, api.Point{X: math.MinInt, Z: -1}},
		{api.Point{X: 1 << 62}, api.Point{X: -3}, 1 << 62, api.Point{X: 1 << 62}},
		{api.Point{X: 1 << 62}, api.Point{X: 3}, -1 << 62, api.Point{X: -1 << 62}},
		{api.Point{X: -1, Y: 1 << 62, Z: 1 << 62}, api.Point{Y: 2, Z: 2}, 0, api.Point{X: -1, Y: 1 << 62, Z: 1 << 62}},
		{api.Point{X: -1 << 32}, api.Point{X: 1 << 32}, 0, api.Point{X: -1 << 32}},
		{api.Point{X: math.MaxInt}, api.Point{X: math.MaxInt}, 1, api.Point{X: math.MaxInt}},
		// A negated component wraps around too.
		{api.Point{X: math.MinInt, Y: 3}, api.Point{X: 1}, math.MinInt, api.Point{X: math.MinInt, Y: -3}},
		{api.Point{X: math.MinInt}, api.Point{X: math.MinInt}, 0, api.Point{X: math.MinInt}},
	} {
		if got, back := octa.Dot(x.d, x.n), octa.Dot(x.n, x.d); got != x.dot || back != x.dot {
			t.Errorf("Dot of %v and %v = %d, and %d the other way round, want %d", x.d, x.n, got, back, x.dot)
		}
		if got := octa.Facing(x.d, x.n); got != x.facing {
			t.Errorf("Facing(%v, %v) = %v, want %v", x.d, x.n, got, x.facing)
		}
	}
}

func TestDotAndFacingOfMany(t *testing.T) {
	draw := draws()
	point := func() api.Point { return api.Point{X: int(draw()), Y: int(draw()), Z: int(draw())} }
	for range 5000 {
		d, to := point(), point()
		// The sum without bounds, of which the lowest 64 bits remain.
		sum := new(big.Int)
		for _, x := range [3][2]int{{d.X, to.X}, {d.Y, to.Y}, {d.Z, to.Z}} {
			sum.Add(sum, new(big.Int).Mul(big.NewInt(int64(x[0])), big.NewInt(int64(x[1]))))
		}
		want := int(new(big.Int).And(sum, new(big.Int).SetUint64(math.MaxUint64)).Uint64())
		if got := octa.Dot(d, to); got != want {
			t.Errorf("Dot(%v, %v) = %d, want %d", d, to, got, want)
		}
		facing := d
		if want < 0 {
			facing = api.Point{X: -d.X, Y: -d.Y, Z: -d.Z}
		}
		if got := octa.Facing(d, to); got != facing {
			t.Errorf("Facing(%v, %v) = %v, want %v", d, to, got, facing)
		}
	}
}
