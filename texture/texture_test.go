package texture_test

import (
	"bytes"
	"math"
	"math/big"
	"reflect"
	"slices"
	"testing"

	"umbra/api"
	"umbra/texture"
)

const (
	least = math.MinInt
	most  = math.MaxInt
)

// sides are those that a texture may have.
var sides = []int{1, 2, 4, 8, 16}

// draws returns a function that draws numbers, the same ones in every run, of all
// sizes and of both signs.
func draws() func() uint64 {
	state := uint64(0x9e3779b97f4a7c15)
	next := func() uint64 {
		state ^= state << 13
		state ^= state >> 7
		state ^= state << 17
		return state
	}
	return func() uint64 { return uint64(int64(next()) >> (next() % 64)) }
}

// sized returns a texture of that side with so many texels, whose numbers are all
// different as far as they can be: none comes again before all 256 were there.
func sized(side, texels int) api.Texture {
	t := api.Texture{Side: side, Texels: make([][3]int, texels)}
	for i := range t.Texels {
		for color := range 3 {
			t.Texels[i][color] = (3*i + color) * 37 % 256
		}
	}
	return t
}

// good returns one without a fault.
func good(side int) api.Texture { return sized(side, side*side) }

// clone returns a copy that shares nothing.
func clone(t api.Texture) api.Texture {
	return api.Texture{Side: t.Side, Texels: slices.Clone(t.Texels)}
}

// same tells whether two textures are equal; nil and empty lists are.
func same(a, b api.Texture) bool {
	return a.Side == b.Side && slices.Equal(a.Texels, b.Texels)
}

// isZero tells whether t is the texture beside an error.
func isZero(t api.Texture) bool { return t.Side == 0 && len(t.Texels) == 0 }

// set returns t with one number of a texel changed.
func set(t api.Texture, texel, color, n int) api.Texture {
	t = clone(t)
	t.Texels[texel][color] = n
	return t
}

// places returns the first, a middle and the last index of n.
func places(n int) []int { return []int{0, n / 2, n - 1} }

// The model asks for one fault after the other; it counts without wrapping around.
func modelCheck(t api.Texture) api.Errno {
	if !slices.Contains(sides, t.Side) {
		return api.ErrForm
	}
	side := big.NewInt(int64(t.Side))
	if side.Mul(side, side).Cmp(big.NewInt(int64(len(t.Texels)))) != 0 {
		return api.ErrForm
	}
	for _, texel := range t.Texels {
		for _, n := range texel {
			if int(uint8(n)) != n {
				return api.ErrForm
			}
		}
	}
	return api.OK
}

// layout returns the bytes of t, each number at its place, cut to a byte.
func layout(t api.Texture) []byte {
	b := make([]byte, 1+3*len(t.Texels))
	b[0] = byte(t.Side)
	for i, texel := range t.Texels {
		for color, n := range texel {
			b[1+3*i+color] = byte(n)
		}
	}
	return b
}

// modelDecode returns what Decode promises.
func modelDecode(b []byte) (api.Texture, api.Errno) {
	if len(b) == 0 {
		return api.Texture{}, api.ErrShort
	}
	t := api.Texture{Side: int(b[0])}
	length := 1 + 3*t.Side*t.Side
	if len(b) < length {
		return api.Texture{}, api.ErrShort
	}
	if len(b) > length {
		return api.Texture{}, api.ErrForm
	}
	for at := 1; at < length; at += 3 {
		t.Texels = append(t.Texels, [3]int{int(b[at]), int(b[at+1]), int(b[at+2])})
	}
	if e := modelCheck(t); e != api.OK {
		return api.Texture{}, e
	}
	return t, api.OK
}

// modelHalf adds each texel to the one of the half where it lies, and rounds what is
// left of the sums.
func modelHalf(t api.Texture) (api.Texture, api.Errno) {
	if e := modelCheck(t); e != api.OK {
		return api.Texture{}, e
	}
	if t.Side < 2 {
		return api.Texture{}, api.ErrArg
	}
	h := api.Texture{Side: t.Side / 2, Texels: make([][3]int, t.Side*t.Side/4)}
	for i, texel := range t.Texels {
		row, column := i/t.Side/2, i%t.Side/2
		for color, n := range texel {
			h.Texels[h.Side*row+column][color] += n
		}
	}
	for i := range h.Texels {
		for color := range 3 {
			n := &h.Texels[i][color]
			if left := *n % 4; left < 2 {
				*n = (*n - left) / 4
			} else {
				*n = (*n + 4 - left) / 4
			}
		}
	}
	return h, api.OK
}

// modelLevels returns what Levels promises.
func modelLevels(t api.Texture) ([]api.Texture, api.Errno) {
	if e := modelCheck(t); e != api.OK {
		return nil, e
	}
	list := []api.Texture{t}
	for {
		h, e := modelHalf(list[len(list)-1])
		if e != api.OK {
			return list, api.OK
		}
		list = append(list, h)
	}
}

// modelAt finds the column and the row by big numbers.
func modelAt(t api.Texture, x, y int) ([3]int, api.Errno) {
	if e := modelCheck(t); e != api.OK {
		return [3]int{}, e
	}
	within := func(n int) int {
		// Mod of big numbers is never below 0.
		return int(new(big.Int).Mod(big.NewInt(int64(n)), big.NewInt(int64(t.Side))).Int64())
	}
	return t.Texels[within(x)+t.Side*within(y)], api.OK
}

// sameLevels tells whether two lists of textures are equal.
func sameLevels(a, b []api.Texture) bool { return slices.EqualFunc(a, b, same) }

// checkAll holds all calls for t against the model.
func checkAll(t *testing.T, x api.Texture) {
	t.Helper()
	kept, want := clone(x), modelCheck(x)
	if got := texture.Check(x); got != want {
		t.Errorf("Check(%v) = %v, want %v", x, got, want)
	}
	b, e := texture.Encode(x)
	if e != want || want != api.OK && len(b) != 0 || want == api.OK && !bytes.Equal(b, layout(x)) {
		t.Errorf("Encode(%v) = %v, %v, want %v", x, b, e, want)
	}
	if want == api.OK {
		checkDecode(t, b)
	}
	wantHalf, wantErr := modelHalf(x)
	if h, e := texture.Half(x); e != wantErr || !same(h, wantHalf) {
		t.Errorf("Half(%v) = %v, %v, want %v, %v", x, h, e, wantHalf, wantErr)
	}
	wantLevels, wantErr := modelLevels(x)
	if list, e := texture.Levels(x); e != wantErr || !sameLevels(list, wantLevels) {
		t.Errorf("Levels(%v) = %v, %v, want %v, %v", x, list, e, wantLevels, wantErr)
	}
	for _, at := range [][2]int{{0, 0}, {1, 0}, {0, 1}, {-1, 5}, {x.Side, -2}, {least, most}, {most, least}} {
		checkAt(t, x, at[0], at[1])
	}
	if !same(x, kept) {
		t.Errorf("%v became %v", kept, x)
	}
}

func checkAt(t *testing.T, x api.Texture, column, row int) {
	t.Helper()
	want, f := modelAt(x, column, row)
	if got, e := texture.At(x, column, row); e != f || got != want {
		t.Errorf("At(%v, %d, %d) = %v, %v, want %v, %v", x, column, row, got, e, want, f)
	}
}

// checkDecode holds Decode of b against the model, and Encode against b.
func checkDecode(t *testing.T, b []byte) {
	t.Helper()
	kept := slices.Clone(b)
	want, f := modelDecode(b)
	got, e := texture.Decode(b)
	if e != f || !same(got, want) {
		t.Errorf("Decode(%v) = %v, %v, want %v, %v", b, got, e, want, f)
	}
	if e == api.OK {
		if again, e := texture.Encode(got); e != api.OK || !bytes.Equal(again, b) {
			t.Errorf("%v comes back as %v, %v", b, again, e)
		}
	}
	if !bytes.Equal(b, kept) {
		t.Errorf("Decode changed %v to %v", kept, b)
	}
}

// refused holds all calls against a fault of t.
func refused(t *testing.T, what string, x api.Texture) {
	t.Helper()
	if e := texture.Check(x); e != api.ErrForm {
		t.Errorf("%s: Check(%v) = %v", what, x, e)
	}
	if b, e := texture.Encode(x); e != api.ErrForm || len(b) != 0 {
		t.Errorf("%s: Encode(%v) = %v, %v", what, x, b, e)
	}
	if h, e := texture.Half(x); e != api.ErrForm || !isZero(h) {
		t.Errorf("%s: Half(%v) = %v, %v", what, x, h, e)
	}
	if list, e := texture.Levels(x); e != api.ErrForm || len(list) != 0 {
		t.Errorf("%s: Levels(%v) = %v, %v", what, x, list, e)
	}
	for _, n := range []int{least, -1, 0, 1, x.Side - 1, x.Side, most} {
		for _, m := range []int{0, n, -n} {
			if texel, e := texture.At(x, n, m); e != api.ErrForm || texel != [3]int{} {
				t.Errorf("%s: At(%v, %d, %d) = %v, %v", what, x, n, m, texel, e)
			}
		}
	}
	checkAll(t, x)
}

// accepted holds all calls against the lack of a fault of t.
func accepted(t *testing.T, what string, x api.Texture) {
	t.Helper()
	if e := texture.Check(x); e != api.OK {
		t.Errorf("%s: Check(%v) = %v", what, x, e)
	}
	if b, e := texture.Encode(x); e != api.OK || len(b) != 1+3*x.Side*x.Side {
		t.Errorf("%s: Encode(%v) = %v, %v", what, x, b, e)
	}
	checkAll(t, x)
}

func TestNumbersAreDifferent(t *testing.T) {
	for _, side := range sides {
		times := map[int]int{}
		texels := map[[3]int]bool{}
		for _, texel := range good(side).Texels {
			texels[texel] = true
			for _, n := range texel {
				times[n]++
			}
		}
		if len(texels) != side*side || len(times) != min(256, 3*side*side) {
			t.Errorf("side %d: %d texels, %d numbers", side, len(texels), len(times))
		}
		for n, count := range times {
			if n < 0 || n > 255 || count != max(1, 3*side*side/256) {
				t.Errorf("side %d: the number %d stands %d times", side, n, count)
			}
		}
	}
}

func TestCheckOfSides(t *testing.T) {
	valid := func(side int) bool {
		return side == 1 || side == 2 || side == 4 || side == 8 || side == 16
	}
	list := []int{31, 32, 33, 64, 100, 128, 255, 256, 257}
	for side := -1; side <= 17; side++ {
		list = append(list, side)
	}
	for _, side := range append(list, -2, -4, -8, -16, -32, -256) {
		square := side * side
		counts := []int{0, square - 1, square, square + 1, 1, 4, 16, 64, 256, square / 2, 2 * square}
		for _, texels := range counts {
			x := sized(side, max(texels, 0))
			if valid(side) && len(x.Texels) == square {
				accepted(t, "the side and the texels", x)
			} else {
				refused(t, "the side or the texels", x)
			}
		}
		refused(t, "no texels", api.Texture{Side: side})
		refused(t, "an empty list of texels", api.Texture{Side: side, Texels: [][3]int{}})
	}
	for _, side := range sides {
		accepted(t, "just enough", good(side))
		refused(t, "one too few", sized(side, side*side-1))
		refused(t, "one too many", sized(side, side*side+1))
		refused(t, "a row too few", sized(side, side*side-side))
		refused(t, "a row too many", sized(side, side*side+side))
	}
	refused(t, "the zero texture", api.Texture{})
	refused(t, "many texels", sized(16, 5000))
	refused(t, "many texels of side 1", sized(1, 70000))
}

// TestCheckOfFarSides takes sides whose squares wrap around, with as many texels as the
// square that has wrapped around, and about as many.
func TestCheckOfFarSides(t *testing.T) {
	for _, side := range []int{
		least, least + 1, least + 2, least + 4, least + 8, least + 16, -1 << 62, -1 << 32, -1<<32 + 1, -1<<32 + 16, -1 << 31, -65536, -257,
		257, 512, 4096, 65535, 65536, 65537, 1<<31 - 1, 1 << 31, 1<<32 - 1, 1 << 32, 1<<32 + 1, 1<<32 + 2, 1<<32 + 16, 1<<33 + 4,
		1 << 48, 1<<61 + 4, 1 << 62, 1<<62 + 1, most - 15, most - 3, most - 1, most,
	} {
		for _, texels := range []int{0, 1, 2, 3, 4, 5, 15, 16, 17, 63, 64, 65, 255, 256, 257, side*side - 1, side * side, side*side + 1} {
			if texels >= 0 && texels <= 300 {
				refused(t, "a side far beyond", sized(side, texels))
			}
		}
	}
}

func TestCheckOfNumbers(t *testing.T) {
	valid := []int{0, 1, 2, 127, 128, 129, 254, 255}
	faults := []int{
		-1, -2, -127, -128, -129, -255, -256, -257, 256, 257, 258, 511, 512, 1000, 65535, 65536, 65791, -65536, -65535, 1 << 31, 1<<31 + 5, -1 << 31, 1 << 32, 1<<32 + 5,
		1<<32 + 255, -1 << 32, -1<<32 + 5, 1 << 62, least, least + 1, least + 255, most, most - 1, most - 255,
	}
	for _, side := range sides {
		for _, texel := range places(side * side) {
			for color := range 3 {
				for _, n := range valid {
					accepted(t, "a number", set(good(side), texel, color, n))
				}
				for _, n := range faults {
					refused(t, "a number out of bounds", set(good(side), texel, color, n))
				}
			}
		}
	}
	// Each place of the greatest texture, and more faults than one.
	for texel := range 256 {
		for color := range 3 {
			refused(t, "a number of -1", set(good(16), texel, color, -1))
			x := set(good(16), texel, color, 256)
			refused(t, "a number of 256", x)
			refused(t, "two faults", set(x, 255-texel, (color+1)%3, -1))
		}
	}
	// What lies out of bounds on both sides is not mended by its sum.
	x := good(2)
	x.Texels[1] = [3]int{-1, 256, 0}
	refused(t, "two faults of a texel", x)
	for _, n := range valid {
		for _, side := range sides {
			accepted(t, "one number everywhere", even(side, [3]int{n, n, n}))
		}
	}
}

// even returns a texture of one texel everywhere.
func even(side int, texel [3]int) api.Texture {
	return api.Texture{Side: side, Texels: slices.Repeat([][3]int{texel}, side*side)}
}

func TestCheckOfTwoFaults(t *testing.T) {
	refused(t, "a side and a number", set(sized(3, 9), 4, 1, 256))
	refused(t, "a count and a number", set(sized(4, 15), 14, 2, -1))
	refused(t, "a count and the number behind", set(sized(4, 17), 16, 0, 256))
	refused(t, "all three", set(sized(5, 1), 0, 0, -1))
}

func TestEncode(t *testing.T) {
	for _, x := range []struct {
		t    api.Texture
		want []byte
	}{
		{api.Texture{Side: 1, Texels: [][3]int{{0, 128, 255}}}, []byte{1, 0, 128, 255}},
		{api.Texture{Side: 1, Texels: [][3]int{{3, 2, 1}}}, []byte{1, 3, 2, 1}},
		{
			api.Texture{Side: 2, Texels: [][3]int{{10, 11, 12}, {20, 21, 22}, {30, 31, 32}, {40, 41, 42}}},
			[]byte{2, 10, 11, 12, 20, 21, 22, 30, 31, 32, 40, 41, 42},
		},
		{
			api.Texture{Side: 4, Texels: [][3]int{
				{0, 1, 2}, {3, 4, 5}, {6, 7, 8}, {9, 10, 11},
				{255, 254, 253}, {252, 251, 250}, {249, 248, 247}, {246, 245, 244},
				{100, 101, 102}, {103, 104, 105}, {106, 107, 108}, {109, 110, 111},
				{200, 199, 198}, {197, 196, 195}, {194, 193, 192}, {191, 190, 189},
			}},
			[]byte{
				4,
				0, 1, 2, 3, 4, 5, 6, 7, 8, 9, 10, 11,
				255, 254, 253, 252, 251, 250, 249, 248, 247, 246, 245, 244,
				100, 101, 102, 103, 104, 105, 106, 107, 108, 109, 110, 111,
				200, 199, 198, 197, 196, 195, 194, 193, 192, 191, 190, 189,
			},
		},
	} {
		if b, e := texture.Encode(x.t); e != api.OK || !bytes.Equal(b, x.want) {
			t.Errorf("Encode(%v) = %v, %v, want %v", x.t, b, e, x.want)
		}
		if back, e := texture.Decode(x.want); e != api.OK || !reflect.DeepEqual(back, x.t) {
			t.Errorf("Decode(%v) = %v, %v, want %v", x.want, back, e, x.t)
		}
		checkAll(t, x.t)
	}
	lengths := []int{4, 13, 49, 193, 769}
	for i, side := range sides {
		x := good(side)
		b, e := texture.Encode(x)
		if e != api.OK || len(b) != lengths[i] || int(b[0]) != side {
			t.Fatalf("side %d: %d bytes, %v", side, len(b), e)
		}
		for row := range side {
			for column := range side {
				for color := range 3 {
					at := 1 + 3*(side*row+column) + color
					if int(b[at]) != x.Texels[side*row+column][color] {
						t.Errorf("side %d: byte %d is %d", side, at, b[at])
					}
				}
			}
		}
		if back, e := texture.Decode(b); e != api.OK || !reflect.DeepEqual(back, x) {
			t.Errorf("Decode(%v) = %v, %v, want %v", b, back, e, x)
		}
	}
}

// TestWhereNumbersStand changes one number of a texture and asks which bytes become
// different.
func TestWhereNumbersStand(t *testing.T) {
	for _, side := range sides {
		x := good(side)
		first, e := texture.Encode(x)
		if e != api.OK {
			t.Fatal(e)
		}
		for texel := range x.Texels {
			for color := range 3 {
				for _, n := range []int{0, 1, 128, 255, (x.Texels[texel][color] + 1) % 256} {
					changed := set(x, texel, color, n)
					want := slices.Clone(first)
					want[1+3*texel+color] = byte(n)
					if b, e := texture.Encode(changed); e != api.OK || !bytes.Equal(b, want) {
						t.Errorf("Encode(%v) = %v, %v, want %v", changed, b, e, want)
					}
					if back, e := texture.Decode(want); e != api.OK || !same(back, changed) {
						t.Errorf("Decode(%v) = %v, %v, want %v", want, back, e, changed)
					}
				}
			}
		}
	}
}

// TestDecodeOfAnotherLength decodes each proper prefix of encodings, of sides that may
// be and of others, and bytes behind them.
func TestDecodeOfAnotherLength(t *testing.T) {
	for _, side := range []int{0, 1, 2, 3, 4, 5, 7, 8, 9, 15, 16, 17} {
		b := layout(good(side))
		for length := range len(b) {
			got, e := texture.Decode(b[:length])
			if e != api.ErrShort || !isZero(got) {
				t.Errorf("Decode(%v) = %v, %v", b[:length], got, e)
			}
			checkDecode(t, b[:length:length])
		}
		for _, more := range []int{1, 2, 3, 4, 6, 9, 12, 48, 255, 256, 257, 768, 65536, 1 << 20} {
			for _, fill := range []byte{0, 1, 255} {
				got, e := texture.Decode(slices.Concat(b, bytes.Repeat([]byte{fill}, more)))
				if e != api.ErrForm || !isZero(got) {
					t.Errorf("Decode(%v and %d more) = %v, %v", b, more, got, e)
				}
			}
		}
		checkDecode(t, slices.Concat(b, b))
		checkDecode(t, b)
	}
	for _, b := range [][]byte{nil, {}} {
		if got, e := texture.Decode(b); e != api.ErrShort || !isZero(got) {
			t.Errorf("Decode(%v) = %v, %v", b, got, e)
		}
	}
}

// TestDecodeOfFirstBytes decodes each value of the first byte with no bytes behind it,
// too few, just enough and too many.
func TestDecodeOfFirstBytes(t *testing.T) {
	for side := range 256 {
		enough := 3 * side * side
		whole := layout(good(side))
		more := slices.Concat(whole, make([]byte, side*side+3000))
		for _, behind := range []int{
			0, 1, 2, 3, side, 3 * side, side * side, 2 * side * side, enough - 3, enough - 1,
			enough, enough + 1, enough + 3, 4 * side * side, enough + 3000,
		} {
			want, wantErr := api.Texture{}, api.ErrForm
			switch {
			case behind < 0:
				continue
			case behind < enough:
				wantErr = api.ErrShort
			case behind == enough && slices.Contains(sides, side):
				want, wantErr = good(side), api.OK
			}
			if got, e := texture.Decode(more[:1+behind]); e != wantErr || !same(got, want) {
				t.Errorf("side %d, %d bytes behind it: %v, %v, want %v", side, behind, got, e, wantErr)
			}
		}
		zeros := make([]byte, len(whole))
		zeros[0] = byte(side)
		checkDecode(t, zeros)
		checkDecode(t, zeros[:1])
	}
	// Without texels, a side of 0 has just enough bytes.
	if got, e := texture.Decode([]byte{0}); e != api.ErrForm || !isZero(got) {
		t.Errorf("Decode of side 0: %v, %v", got, e)
	}
}

// TestEachByte puts each value at each place of encodings.
func TestEachByte(t *testing.T) {
	for _, side := range []int{1, 2, 4, 8} {
		whole := layout(good(side))
		for at := range whole {
			for value := range 256 {
				b := slices.Clone(whole)
				b[at] = byte(value)
				checkDecode(t, b)
			}
		}
	}
}

func TestHalf(t *testing.T) {
	// The chapter's example.
	x := api.Texture{Side: 2, Texels: [][3]int{{0, 9, 8}, {1, 9, 8}, {2, 9, 8}, {4, 9, 8}}}
	want := api.Texture{Side: 1, Texels: [][3]int{{2, 9, 8}}}
	if h, e := texture.Half(x); e != api.OK || !reflect.DeepEqual(h, want) {
		t.Errorf("Half(%v) = %v, %v, want %v", x, h, e, want)
	}
	x = api.Texture{Side: 4, Texels: [][3]int{
		{0, 0, 255}, {0, 0, 255}, {10, 100, 200}, {20, 101, 201},
		{0, 0, 255}, {0, 1, 255}, {30, 102, 202}, {40, 103, 203},
		{1, 255, 7}, {0, 255, 8}, {255, 0, 9}, {0, 255, 10},
		{1, 255, 8}, {0, 254, 8}, {0, 0, 11}, {0, 255, 13},
	}}
	want = api.Texture{Side: 2, Texels: [][3]int{{0, 0, 255}, {25, 102, 202}, {1, 255, 8}, {64, 128, 11}}}
	if h, e := texture.Half(x); e != api.OK || !reflect.DeepEqual(h, want) {
		t.Errorf("Half(%v) = %v, %v, want %v", x, h, e, want)
	}
	for _, side := range sides {
		x := good(side)
		h, e := texture.Half(x)
		if side == 1 {
			if e != api.ErrArg || !isZero(h) {
				t.Errorf("Half(%v) = %v, %v", x, h, e)
			}
			continue
		}
		if e != api.OK || h.Side != side/2 || len(h.Texels) != side*side/4 || texture.Check(h) != api.OK {
			t.Errorf("Half(%v) = %v, %v", x, h, e)
		}
		for _, n := range []int{0, 1, 2, 3, 254, 255} {
			x := even(side, [3]int{n, 255 - n, 255})
			if h, e := texture.Half(x); e != api.OK || !same(h, even(side/2, [3]int{n, 255 - n, 255})) {
				t.Errorf("Half(%v) = %v, %v", x, h, e)
			}
		}
	}
}

// TestHalfOfSums takes all sums of four numbers, parted in different ways, and puts them
// at each place of the half and in each colour.
func TestHalfOfSums(t *testing.T) {
	for sum := 0; sum <= 4*255; sum++ {
		want := 0 // how many fours there are; the last one may be a half of one
		for 4*want+2 <= sum {
			want++
		}
		for _, four := range [][4]int{
			{min(sum, 255), min(max(sum-255, 0), 255), min(max(sum-510, 0), 255), max(sum-765, 0)},
			{max(sum-765, 0), min(max(sum-510, 0), 255), min(max(sum-255, 0), 255), min(sum, 255)},
			{sum / 4, (sum + 1) / 4, (sum + 2) / 4, (sum + 3) / 4},
		} {
			for color := range 3 {
				x := even(2, [3]int{77, 77, 77})
				for i, n := range four {
					x.Texels[i][color] = n
				}
				wanted := [3]int{77, 77, 77}
				wanted[color] = want
				if h, e := texture.Half(x); e != api.OK || h.Side != 1 || len(h.Texels) != 1 || h.Texels[0] != wanted {
					t.Errorf("Half(%v) = %v, %v, want %v", x, h, e, wanted)
				}
			}
		}
	}
	for _, side := range []int{4, 8, 16} {
		for row := range side / 2 {
			for column := range side / 2 {
				for color := range 3 {
					for sum := 1000; sum <= 1020; sum++ {
						x := even(side, [3]int{})
						for i := range 4 {
							x.Texels[side*(2*row+i/2)+2*column+i%2][color] = (sum + i) / 4
						}
						want := even(side/2, [3]int{})
						want.Texels[side/2*row+column][color] = (sum + 2) >> 2
						if h, e := texture.Half(x); e != api.OK || !same(h, want) {
							t.Errorf("Half(%v) = %v, %v, want %v", x, h, e, want)
						}
					}
				}
			}
		}
	}
}

// TestHalfOfOneTexel sets one number of a texture of zeros and asks where it goes.
func TestHalfOfOneTexel(t *testing.T) {
	for _, side := range []int{2, 4, 8, 16} {
		for texel := range side * side {
			for color := range 3 {
				x := set(even(side, [3]int{}), texel, color, 255)
				want := set(even(side/2, [3]int{}), side/2*(texel/side/2)+texel%side/2, color, 64)
				if h, e := texture.Half(x); e != api.OK || !same(h, want) {
					t.Errorf("Half(%v) = %v, %v, want %v", x, h, e, want)
				}
				x = set(even(side, [3]int{}), texel, color, 1) // rounded away
				if h, e := texture.Half(x); e != api.OK || !same(h, even(side/2, [3]int{})) {
					t.Errorf("Half(%v) = %v, %v", x, h, e)
				}
			}
		}
	}
}

func TestLevels(t *testing.T) {
	for i, side := range sides {
		for _, x := range []api.Texture{good(side), even(side, [3]int{}), even(side, [3]int{255, 255, 255}), even(side, [3]int{1, 2, 3})} {
			list, e := texture.Levels(x)
			if e != api.OK || len(list) != i+1 {
				t.Fatalf("Levels(%v) = %v, %v", x, list, e)
			}
			if !same(list[0], x) {
				t.Errorf("the first level of %v is %v", x, list[0])
			}
			for j, level := range list {
				if level.Side != side>>j || len(level.Texels) != level.Side*level.Side || texture.Check(level) != api.OK {
					t.Errorf("level %d of %v is %v", j, x, level)
				}
				if j == 0 {
					continue
				}
				if h, e := texture.Half(list[j-1]); e != api.OK || !same(h, level) {
					t.Errorf("level %d of %v is %v, the half of the one ahead %v, %v", j, x, level, h, e)
				}
			}
			if last := list[len(list)-1]; last.Side != 1 {
				t.Errorf("the last level of %v is %v", x, last)
			}
		}
	}
	// Each level is rounded: 2 of 16 are less than a half, but 2 of 4 are not.
	x := even(4, [3]int{})
	for _, texel := range []int{0, 1, 2, 3} {
		x.Texels[texel] = [3]int{1, 0, 0}
	}
	want := []api.Texture{x, {Side: 2, Texels: [][3]int{{1, 0, 0}, {1, 0, 0}, {}, {}}}, {Side: 1, Texels: [][3]int{{1, 0, 0}}}}
	if list, e := texture.Levels(x); e != api.OK || !reflect.DeepEqual(list, want) {
		t.Errorf("Levels(%v) = %v, %v, want %v", x, list, e, want)
	}
}

// between tells whether each number of a level lies between the least and the greatest
// one of its colour of the level ahead.
func between(level, ahead api.Texture) bool {
	for color := range 3 {
		var numbers []int
		for _, texel := range ahead.Texels {
			numbers = append(numbers, texel[color])
		}
		for _, texel := range level.Texels {
			if texel[color] < slices.Min(numbers) || texel[color] > slices.Max(numbers) {
				return false
			}
		}
	}
	return true
}

// TestLevelsLieBetween takes textures of numbers that are close to each other, at each
// end and in between, and drawn ones.
func TestLevelsLieBetween(t *testing.T) {
	draw := draws()
	check := func(x api.Texture) {
		t.Helper()
		list, e := texture.Levels(x)
		if e != api.OK || len(list) == 0 {
			t.Fatalf("Levels(%v) = %v, %v", x, list, e)
		}
		for j := range len(list) - 1 {
			if !between(list[j+1], list[j]) {
				t.Errorf("level %d of %v is %v, that ahead %v", j+1, x, list[j+1], list[j])
			}
		}
		checkAll(t, x)
	}
	for _, side := range sides {
		check(good(side))
		for range 100 {
			span := 1 + int(draw()%6)
			base := []int{0, 256 - span, int(draw() % uint64(257-span))}
			x := even(side, [3]int{})
			for texel := range x.Texels {
				for color := range 3 {
					x.Texels[texel][color] = base[color] + int(draw()%uint64(span))
				}
			}
			check(x)
			check(drawn(side, draw))
		}
	}
}

// drawn returns a texture without a fault.
func drawn(side int, draw func() uint64) api.Texture {
	x := even(side, [3]int{})
	for texel := range x.Texels {
		x.Texels[texel] = [3]int{int(draw() % 256), int(draw() % 256), int(draw() % 256)}
	}
	return x
}

func TestAt(t *testing.T) {
	for _, side := range sides {
		x := good(side)
		for row := range side {
			for column := range side {
				want := x.Texels[side*row+column]
				for _, down := range []int{-3 * side, -side, 0, side, 2 * side, 1 << 40, -1 << 40, most - side + 1, least} {
					for _, aside := range []int{-2 * side, -side, 0, side, 5 * side, 1 << 50, -1 << 50, most - side + 1, least} {
						if got, e := texture.At(x, aside+column, down+row); e != api.OK || got != want {
							t.Errorf("At(%v, %d, %d) = %v, %v, want %v", x, aside+column, down+row, got, e, want)
						}
					}
				}
			}
		}
		for n := -3 * side; n <= 3*side; n++ {
			for m := -3 * side; m <= 3*side; m++ {
				checkAt(t, x, n, m)
			}
		}
		ends := []int{least, least + 1, least + side - 1, least + side, -1 << 32, -1<<32 - 1, -side - 1, -1, 0, 1, side - 1, side, side + 1, 1<<32 - 1, 1 << 32, most - side, most - 1, most}
		for _, n := range ends {
			for _, m := range ends {
				checkAt(t, x, n, m)
			}
		}
	}
	x := api.Texture{Side: 2, Texels: [][3]int{{1, 2, 3}, {4, 5, 6}, {7, 8, 9}, {10, 11, 12}}}
	for _, y := range []struct {
		column, row int
		want        [3]int
	}{
		{0, 0, [3]int{1, 2, 3}}, {1, 0, [3]int{4, 5, 6}}, {0, 1, [3]int{7, 8, 9}}, {1, 1, [3]int{10, 11, 12}},
		{-1, 0, [3]int{4, 5, 6}}, {0, -1, [3]int{7, 8, 9}}, {-1, -1, [3]int{10, 11, 12}}, {-2, -2, [3]int{1, 2, 3}},
		{2, 0, [3]int{1, 2, 3}}, {0, 2, [3]int{1, 2, 3}}, {3, 2, [3]int{4, 5, 6}}, {2, 3, [3]int{7, 8, 9}},
		{least, least, [3]int{1, 2, 3}}, {most, least, [3]int{4, 5, 6}}, {least, most, [3]int{7, 8, 9}}, {most, most, [3]int{10, 11, 12}},
	} {
		if got, e := texture.At(x, y.column, y.row); e != api.OK || got != y.want {
			t.Errorf("At(%v, %d, %d) = %v, %v, want %v", x, y.column, y.row, got, e, y.want)
		}
	}
}

func TestThereAndBack(t *testing.T) {
	draw := draws()
	for _, side := range sides {
		for range 300 {
			x := drawn(side, draw)
			checkAll(t, x)
			b, e := texture.Encode(x)
			if e != api.OK {
				t.Fatalf("Encode(%v): %v", x, e)
			}
			if back, e := texture.Decode(b); e != api.OK || !same(back, x) {
				t.Errorf("%v comes back as %v, %v", x, back, e)
			}
			list, _ := texture.Levels(x)
			for _, level := range list {
				b, e := texture.Encode(level)
				if back, f := texture.Decode(b); e != api.OK || f != api.OK || !same(back, level) {
					t.Errorf("%v comes back as %v, %v, %v", level, back, e, f)
				}
			}
		}
	}
}

// TestDrawnBytes decodes bytes that have about the length that they tell.
func TestDrawnBytes(t *testing.T) {
	draw := draws()
	for range 20000 {
		side := int(draw() % 18)
		b := make([]byte, 1+3*side*side+int(draw()%5), 1000)
		for i := range b {
			b[i] = byte(draw())
		}
		b[0] = byte(side)
		checkDecode(t, b)
		checkDecode(t, b[:len(b)-min(int(draw()%5), len(b)-1)])
	}
}

// TestDrawnTextures asks for textures that seldom have no fault.
func TestDrawnTextures(t *testing.T) {
	draw := draws()
	for range 3000 {
		x := sized(int(draw()%20)-1, int(draw()%5))
		if draw()%2 == 0 {
			x = drawn(sides[draw()%5], draw)
		}
		if n := uint64(len(x.Texels)); n > 0 && draw()%2 == 0 {
			x = set(x, int(draw()%n), int(draw()%3), int(draw()))
		}
		checkAll(t, x)
		checkAt(t, x, int(draw()), int(draw()))
	}
}

// TestMemoryBehind asks for textures and bytes with room behind them, which is as it was.
func TestMemoryBehind(t *testing.T) {
	for _, x := range []api.Texture{
		good(1), good(2), good(4), good(8), good(16),
		sized(16, 255), sized(4, 15), sized(2, 5), sized(3, 9), sized(1, 0),
	} {
		n := len(x.Texels)
		memory := slices.Concat(x.Texels, [][3]int{{1, 2, 3}, {-1, 256, -1}})
		kept := slices.Clone(memory)
		checkAll(t, api.Texture{Side: x.Side, Texels: memory[:n]})
		if !slices.Equal(memory, kept) {
			t.Errorf("%v became %v", kept, memory)
		}
	}
	for _, side := range sides {
		b := layout(good(side))
		memory := slices.Concat(b, []byte{0xaa, 0xbb, 0xcc})
		kept := slices.Clone(memory)
		if got, e := texture.Decode(memory[:len(b)]); e != api.OK || !same(got, good(side)) {
			t.Errorf("Decode with room behind: %v, %v", got, e)
		}
		if got, e := texture.Decode(memory[:len(b)-1]); e != api.ErrShort || !isZero(got) {
			t.Errorf("Decode with the last byte behind: %v, %v", got, e)
		}
		if !bytes.Equal(memory, kept) {
			t.Errorf("%v became %v", kept, memory)
		}
	}
}

// spoil overwrites all texels that a texture holds, and the room behind them.
func spoil(list ...api.Texture) {
	for _, x := range list {
		whole := x.Texels[:cap(x.Texels)]
		for i := range whole {
			whole[i] = [3]int{77, 78, 79}
		}
	}
}

// TestMemory changes what was handed in and what was returned.
func TestMemory(t *testing.T) {
	for _, side := range sides {
		x, kept := good(side), good(side)
		want := layout(kept)
		wantLevels, _ := modelLevels(kept)
		memory := slices.Clone(want)
		decoded, e := texture.Decode(memory)
		if e != api.OK {
			t.Fatal(e)
		}
		clear(memory)
		if !same(decoded, kept) {
			t.Errorf("the texture is %v when its bytes are changed", decoded)
		}
		b, _ := texture.Encode(x)
		list, _ := texture.Levels(x)
		texel, _ := texture.At(x, 0, 0)
		half, _ := texture.Half(x)
		spoil(x)
		if !bytes.Equal(b, want) {
			t.Errorf("the bytes are %v when the texture is changed", b)
		}
		if !sameLevels(list, wantLevels) {
			t.Errorf("the levels are %v when the texture is changed", list)
		}
		if texel != kept.Texels[0] {
			t.Errorf("the texel is %v when the texture is changed", texel)
		}
		if wantHalf, _ := modelHalf(kept); !same(half, wantHalf) {
			t.Errorf("the half is %v when the texture is changed", half)
		}
		// What was returned is changed, and all is asked for again.
		whole := b[:cap(b)]
		for i := range whole {
			whole[i] = 0xcc
		}
		x = clone(kept)
		list, _ = texture.Levels(x)
		half, _ = texture.Half(x)
		spoil(append(list, half, decoded)...)
		if !same(x, kept) {
			t.Errorf("%v became %v when its levels were changed", kept, x)
		}
		accepted(t, "again", x)
	}
}

// TestListsOfOneAnswer changes one level after the other, with its room: the others stay.
func TestListsOfOneAnswer(t *testing.T) {
	for _, side := range sides {
		want, _ := modelLevels(good(side))
		for changed := range want {
			list, e := texture.Levels(good(side))
			if e != api.OK || len(list) != len(want) {
				t.Fatalf("side %d: %v, %v", side, list, e)
			}
			spoil(list[changed])
			for j := range list {
				if j != changed && !same(list[j], want[j]) {
					t.Errorf("level %d is %v when level %d is changed", j, list[j], changed)
				}
			}
		}
	}
}

// TestErrorsAsNumbers holds the errors against their numbers.
func TestErrorsAsNumbers(t *testing.T) {
	for _, x := range []struct {
		t    api.Texture
		want int
	}{
		{good(2), 0}, {sized(3, 9), 5}, {sized(2, 3), 5}, {set(good(2), 1, 1, 256), 5},
	} {
		if e := texture.Check(x.t); int(e) != x.want {
			t.Errorf("Check(%v) = %d, want %d", x.t, int(e), x.want)
		}
	}
	if _, e := texture.Decode(nil); int(e) != 4 {
		t.Errorf("Decode of nothing: %d", int(e))
	}
	if _, e := texture.Decode([]byte{1, 2, 3}); int(e) != 4 {
		t.Errorf("Decode of one byte too few: %d", int(e))
	}
	if _, e := texture.Decode([]byte{1, 2, 3, 4, 5}); int(e) != 5 {
		t.Errorf("Decode of one byte more: %d", int(e))
	}
	if _, e := texture.Half(good(1)); int(e) != 2 {
		t.Errorf("Half of side 1: %d", int(e))
	}
}
