package codec_test

import (
	"bytes"
	"math"
	"math/big"
	"slices"
	"strings"
	"testing"

	"umbra/api"
	"umbra/codec"
)

const (
	least = math.MinInt
	most  = math.MaxInt
	all   = math.MaxUint64 // a number of which every bit is set
)

// badWidths are beside and far from those of 1 to 8. Some of them, times 8, are good
// ones again in 64 bits.
func badWidths() []int {
	return []int{
		0, -1, -2, -7, -8, -9, -64, 9, 10, 15, 16, 32, 64, 65, 255, 256, 257, 65537, 1<<32 + 1, -1<<32 + 1,
		1 << 60, 1<<61 + 1, 1<<61 + 8, 1<<62 + 4, -1<<61 + 1, most, most - 1, least, least + 1, least + 8,
	}
}

// draws returns a function that draws numbers, the same ones in every run, of all
// sizes and of both signs.
func draws() func() uint64 {
	state := uint64(0x9e3779b97f4a7c15)
	next := func() uint64 {
		state ^= state << 13
		state ^= state >> 7
		state ^= state << 17
		return state
	}
	return func() uint64 { return uint64(int64(next()) >> (next() % 64)) }
}

// message returns n bytes that do not repeat soon.
func message(n int) []byte {
	draw := draws()
	b := make([]byte, n)
	for i := range b {
		b[i] = byte(draw())
	}
	return b
}

// power returns 2 to the power of n.
func power(n int) *big.Int { return new(big.Int).Lsh(big.NewInt(1), uint(n)) }

func bigOf(x uint64) *big.Int { return new(big.Int).SetUint64(x) }

// The model counts in numbers without bounds. modelBytes returns x, from 0 on, in
// width bytes, and whether it fits.
func modelBytes(width int, x *big.Int) ([]byte, bool) {
	if x.Cmp(power(8*width)) >= 0 {
		return nil, false
	}
	b := x.FillBytes(make([]byte, width))
	slices.Reverse(b)
	return b, true
}

func modelNum(b []byte) *big.Int {
	turned := slices.Clone(b)
	slices.Reverse(turned)
	return new(big.Int).SetBytes(turned)
}

// modelSigned is modelBytes for a number with a sign.
func modelSigned(width, n int) ([]byte, bool) {
	x, half := big.NewInt(int64(n)), power(8*width-1)
	if x.Cmp(new(big.Int).Neg(half)) < 0 || x.Cmp(half) >= 0 {
		return nil, false
	}
	if n < 0 {
		x.Add(x, power(8*width))
	}
	return modelBytes(width, x)
}

func modelInt(b []byte) *big.Int {
	x := modelNum(b)
	if x.Cmp(power(8*len(b)-1)) >= 0 {
		x.Sub(x, power(8*len(b)))
	}
	return x
}

func modelPut(b []byte, width int, n ...uint64) ([]byte, api.Errno) {
	return modelList(b, width, n, func(x uint64) ([]byte, bool) { return modelBytes(width, bigOf(x)) })
}

func modelSignedPut(b []byte, width int, n ...int) ([]byte, api.Errno) {
	return modelList(b, width, n, func(x int) ([]byte, bool) { return modelSigned(width, x) })
}

func modelList[N any](b []byte, width int, n []N, one func(N) ([]byte, bool)) ([]byte, api.Errno) {
	if width < 1 || width > 8 {
		return nil, api.ErrArg
	}
	parts := [][]byte{b}
	for _, x := range n {
		part, ok := one(x)
		if !ok {
			return nil, api.ErrLong
		}
		parts = append(parts, part)
	}
	return bytes.Join(parts, nil), api.OK
}

func checkPut(t *testing.T, b []byte, width int, n ...uint64) {
	t.Helper()
	kept, numbers := slices.Clone(b), slices.Clone(n)
	got, e := codec.Put(b, width, n...)
	if want, f := modelPut(b, width, n...); e != f || !bytes.Equal(got, want) {
		t.Errorf("Put(%v, %d, %#x) = %v, %v, want %v, %v", b, width, n, got, e, want, f)
	}
	if !bytes.Equal(b, kept) || !slices.Equal(n, numbers) {
		t.Errorf("Put(%v, %d, %#x) changed what it was given", kept, width, numbers)
	}
}

func checkSigned(t *testing.T, b []byte, width int, n ...int) {
	t.Helper()
	kept, numbers := slices.Clone(b), slices.Clone(n)
	got, e := codec.Signed(b, width, n...)
	if want, f := modelSignedPut(b, width, n...); e != f || !bytes.Equal(got, want) {
		t.Errorf("Signed(%v, %d, %v) = %v, %v, want %v, %v", b, width, n, got, e, want, f)
	}
	if !bytes.Equal(b, kept) || !slices.Equal(n, numbers) {
		t.Errorf("Signed(%v, %d, %v) changed what it was given", kept, width, numbers)
	}
}

// greatest returns the greatest number that fits in width bytes.
func greatest(width int) uint64 { return math.MaxUint64 >> (64 - 8*width) }

// half returns the least number above those with a sign that fit in width bytes.
func half(width int) uint64 { return 1 << (8*width - 1) }

// numbers are those at and beside the ends of all widths, and those that have a byte
// of their own everywhere.
func numbers() []uint64 {
	list := []uint64{0, 1, 2, 258, 0x0102030405060708, 0x8796a5b4c3d2e1f0, all, all - 1}
	for width := 1; width <= 8; width++ {
		for _, x := range []uint64{greatest(width), half(width)} {
			list = append(list, x-1, x, x+1, -x-1, -x, -x+1)
		}
		list = append(list, 0x1122334455667788>>(64-8*width), 0xf1e2d3c4b5a69788>>(64-8*width))
	}
	return list
}

func TestPut(t *testing.T) {
	for _, x := range []struct {
		b     []byte
		width int
		n     []uint64
		want  []byte
		e     api.Errno
	}{
		{nil, 2, []uint64{258, 1}, []byte{2, 1, 1, 0}, api.OK},
		{nil, 1, nil, nil, api.OK},
		{[]byte{7, 8}, 8, nil, []byte{7, 8}, api.OK},
		{nil, 1, []uint64{0}, []byte{0}, api.OK},
		{nil, 1, []uint64{255}, []byte{255}, api.OK},
		{nil, 1, []uint64{256}, nil, api.ErrLong},
		{[]byte{7}, 1, []uint64{256}, nil, api.ErrLong},
		{nil, 2, []uint64{65535}, []byte{255, 255}, api.OK},
		{nil, 2, []uint64{65536}, nil, api.ErrLong},
		{[]byte{9, 9}, 3, []uint64{0x010203, 0xfffefd}, []byte{9, 9, 3, 2, 1, 0xfd, 0xfe, 0xff}, api.OK},
		{nil, 4, []uint64{0x01020304}, []byte{4, 3, 2, 1}, api.OK},
		{nil, 4, []uint64{1 << 32}, nil, api.ErrLong},
		{nil, 5, []uint64{0x0102030405}, []byte{5, 4, 3, 2, 1}, api.OK},
		{nil, 6, []uint64{0x010203040506}, []byte{6, 5, 4, 3, 2, 1}, api.OK},
		{nil, 7, []uint64{0x01020304050607}, []byte{7, 6, 5, 4, 3, 2, 1}, api.OK},
		{nil, 7, []uint64{1 << 56}, nil, api.ErrLong},
		{nil, 8, []uint64{0x0102030405060708}, []byte{8, 7, 6, 5, 4, 3, 2, 1}, api.OK},
		{nil, 8, []uint64{all, 1 << 63}, []byte{255, 255, 255, 255, 255, 255, 255, 255, 0, 0, 0, 0, 0, 0, 0, 128}, api.OK},
		{nil, 1, []uint64{1, 2, 3}, []byte{1, 2, 3}, api.OK},
		{nil, 1, []uint64{1, 2, 300}, nil, api.ErrLong},
		{nil, 1, []uint64{1, 300, 2}, nil, api.ErrLong},
		{nil, 1, []uint64{300, 1, 2}, nil, api.ErrLong},
		{[]byte{7}, 0, nil, nil, api.ErrArg},
		{[]byte{7}, 9, nil, nil, api.ErrArg},
		{[]byte{7}, 0, []uint64{0}, nil, api.ErrArg},
		{[]byte{7}, 0, []uint64{all}, nil, api.ErrArg},
		{[]byte{7}, 9, []uint64{0}, nil, api.ErrArg},
		{[]byte{7}, -1, []uint64{all}, nil, api.ErrArg},
	} {
		got, e := codec.Put(x.b, x.width, x.n...)
		if e != x.e || !bytes.Equal(got, x.want) {
			t.Errorf("Put(%v, %d, %#x) = %v, %v, want %v, %v", x.b, x.width, x.n, got, e, x.want, x.e)
		}
		checkPut(t, x.b, x.width, x.n...)
	}
}

func TestSigned(t *testing.T) {
	for _, x := range []struct {
		b     []byte
		width int
		n     []int
		want  []byte
		e     api.Errno
	}{
		{nil, 2, []int{-1}, []byte{255, 255}, api.OK},
		{nil, 2, []int{258, -258}, []byte{2, 1, 254, 254}, api.OK},
		{nil, 1, nil, nil, api.OK},
		{[]byte{7, 8}, 8, nil, []byte{7, 8}, api.OK},
		{nil, 1, []int{0, 1, 127, -1, -127, -128}, []byte{0, 1, 127, 255, 129, 128}, api.OK},
		{nil, 1, []int{128}, nil, api.ErrLong},
		{nil, 1, []int{255}, nil, api.ErrLong},
		{nil, 1, []int{256}, nil, api.ErrLong},
		{nil, 1, []int{-129}, nil, api.ErrLong},
		{nil, 1, []int{-256}, nil, api.ErrLong},
		{nil, 2, []int{32767, -32768}, []byte{255, 127, 0, 128}, api.OK},
		{nil, 2, []int{32768}, nil, api.ErrLong},
		{nil, 2, []int{-32769}, nil, api.ErrLong},
		{[]byte{9, 9}, 3, []int{0x010203, -2}, []byte{9, 9, 3, 2, 1, 254, 255, 255}, api.OK},
		{nil, 4, []int{-1 << 31, 1<<31 - 1}, []byte{0, 0, 0, 128, 255, 255, 255, 127}, api.OK},
		{nil, 4, []int{1 << 31}, nil, api.ErrLong},
		{nil, 4, []int{-1<<31 - 1}, nil, api.ErrLong},
		{nil, 5, []int{-0x0102030405}, []byte{0xfb, 0xfb, 0xfc, 0xfd, 0xfe}, api.OK},
		{nil, 6, []int{0x010203040506}, []byte{6, 5, 4, 3, 2, 1}, api.OK},
		{nil, 7, []int{-1 << 55, 1<<55 - 1}, []byte{0, 0, 0, 0, 0, 0, 128, 255, 255, 255, 255, 255, 255, 127}, api.OK},
		{nil, 7, []int{1 << 55}, nil, api.ErrLong},
		{nil, 7, []int{-1<<55 - 1}, nil, api.ErrLong},
		{nil, 8, []int{0x0102030405060708}, []byte{8, 7, 6, 5, 4, 3, 2, 1}, api.OK},
		{nil, 8, []int{least, most}, []byte{0, 0, 0, 0, 0, 0, 0, 128, 255, 255, 255, 255, 255, 255, 255, 127}, api.OK},
		{nil, 8, []int{-1}, []byte{255, 255, 255, 255, 255, 255, 255, 255}, api.OK},
		{nil, 1, []int{1, -2, 300}, nil, api.ErrLong},
		{nil, 1, []int{1, -300, 2}, nil, api.ErrLong},
		{nil, 1, []int{300, 1, -2}, nil, api.ErrLong},
		{[]byte{7}, 0, nil, nil, api.ErrArg},
		{[]byte{7}, 9, nil, nil, api.ErrArg},
		{[]byte{7}, 0, []int{0}, nil, api.ErrArg},
		{[]byte{7}, 0, []int{least}, nil, api.ErrArg},
		{[]byte{7}, 9, []int{0}, nil, api.ErrArg},
		{[]byte{7}, -1, []int{most}, nil, api.ErrArg},
	} {
		got, e := codec.Signed(x.b, x.width, x.n...)
		if e != x.e || !bytes.Equal(got, x.want) {
			t.Errorf("Signed(%v, %d, %v) = %v, %v, want %v, %v", x.b, x.width, x.n, got, e, x.want, x.e)
		}
		checkSigned(t, x.b, x.width, x.n...)
	}
}

// TestOneNumber encodes each number in each width, behind nothing and behind bytes.
func TestOneNumber(t *testing.T) {
	for width := 1; width <= 8; width++ {
		for _, x := range numbers() {
			for _, b := range [][]byte{nil, {}, {1, 2, 3}} {
				checkPut(t, b, width, x)
				checkSigned(t, b, width, int(x))
			}
		}
	}
}

// TestTheEndsOfAWidth encodes, in each width, the greatest number and the least one
// that fit, and those behind them, alone and as the last, the first and one between.
func TestTheEndsOfAWidth(t *testing.T) {
	places := func(width int, fits, tooMuch uint64, e api.Errno, put func(n ...uint64) ([]byte, api.Errno)) {
		good := [][]uint64{{fits}, {0, fits}, {fits, 0}, {1, fits, 2}, {fits, fits, fits, fits}}
		bad := [][]uint64{{tooMuch}, {0, tooMuch}, {tooMuch, 0}, {1, tooMuch, 2}, {fits, fits, fits, tooMuch}}
		for _, n := range good {
			if got, f := put(n...); f != api.OK || len(got) != 2+width*len(n) || got[0] != 3 || got[1] != 4 {
				t.Errorf("%#x in %d bytes behind 3 and 4: %v, %v", n, width, got, f)
			}
		}
		for _, n := range bad {
			if got, f := put(n...); f != e || e != api.OK && len(got) != 0 {
				t.Errorf("%#x in %d bytes behind 3 and 4: %v, %v, want %v", n, width, got, f, e)
			}
		}
	}
	for width := 1; width <= 8; width++ {
		put := func(n ...uint64) ([]byte, api.Errno) { return codec.Put([]byte{3, 4}, width, n...) }
		signed := func(n ...uint64) ([]byte, api.Errno) {
			var list []int
			for _, x := range n {
				list = append(list, int(x))
			}
			return codec.Signed([]byte{3, 4}, width, list...)
		}
		e := api.ErrLong
		if width == 8 {
			e = api.OK // every number fits, and the next one is at the other end
		}
		places(width, greatest(width), greatest(width)+1, e, put)
		places(width, half(width)-1, half(width), e, signed)
		places(width, -half(width), -half(width)-1, e, signed)
	}
}

// TestBadWidths gives no number, one that fits everywhere, ones that would not fit
// and several, behind nothing and behind bytes.
func TestBadWidths(t *testing.T) {
	for _, width := range badWidths() {
		for _, b := range [][]byte{nil, {}, {1, 2, 3}} {
			for _, n := range [][]uint64{nil, {0}, {1}, {256}, {all}, {1 << 63}, {0, 1, 2}, {0, all}, {all, 0}} {
				var signed []int
				for _, x := range n {
					signed = append(signed, int(x))
				}
				if got, e := codec.Put(b, width, n...); e != api.ErrArg || len(got) != 0 {
					t.Errorf("Put(%v, %d, %#x) = %v, %v", b, width, n, got, e)
				}
				if got, e := codec.Signed(b, width, signed...); e != api.ErrArg || len(got) != 0 {
					t.Errorf("Signed(%v, %d, %v) = %v, %v", b, width, signed, got, e)
				}
			}
		}
	}
}

// TestManyNumbers encodes drawn lists, some of whose numbers do not fit.
func TestManyNumbers(t *testing.T) {
	draw := draws()
	for range 5000 {
		width, shift := 1+int(draw()%8), draw()%64
		b := message(int(draw() % 20))
		n, signed := make([]uint64, draw()%12), []int{}
		for i := range n {
			n[i] = draw() & greatest(width) >> (shift % 3)
			signed = append(signed, int(n[i])-int(greatest(width)/2))
		}
		if len(n) > 0 && draw()%3 == 0 {
			at := draw() % uint64(len(n))
			n[at], signed[at] = draw(), int(draw())
		}
		checkPut(t, b, width, n...)
		checkSigned(t, b, width, signed...)
	}
}

// TestPutBehindAList puts numbers, and none, behind lists with and without room, and
// then changes the list, its room and the result.
func TestPutBehindAList(t *testing.T) {
	backing := func(room int) []byte { return bytes.Repeat([]byte{0xaa}, 5+room) }
	calls := map[string]func(b []byte) ([]byte, api.Errno){
		"Put of none":            func(b []byte) ([]byte, api.Errno) { return codec.Put(b, 2) },
		"Put of one":             func(b []byte) ([]byte, api.Errno) { return codec.Put(b, 2, 258) },
		"Put of two":             func(b []byte) ([]byte, api.Errno) { return codec.Put(b, 2, 258, 1) },
		"Put of a bad one":       func(b []byte) ([]byte, api.Errno) { return codec.Put(b, 2, 258, 1<<16) },
		"Put of a bad width":     func(b []byte) ([]byte, api.Errno) { return codec.Put(b, 9, 258) },
		"Signed of none":         func(b []byte) ([]byte, api.Errno) { return codec.Signed(b, 2) },
		"Signed of one":          func(b []byte) ([]byte, api.Errno) { return codec.Signed(b, 2, -2) },
		"Signed of two":          func(b []byte) ([]byte, api.Errno) { return codec.Signed(b, 2, -2, 258) },
		"Signed of a bad one":    func(b []byte) ([]byte, api.Errno) { return codec.Signed(b, 2, -2, 1<<15) },
		"Signed of a bad width":  func(b []byte) ([]byte, api.Errno) { return codec.Signed(b, 0, -2) },
		"Signed of eight places": func(b []byte) ([]byte, api.Errno) { return codec.Signed(b, 8, -2) },
	}
	want := map[string][]byte{
		"Put of none": {}, "Put of one": {2, 1}, "Put of two": {2, 1, 1, 0},
		"Signed of none": {}, "Signed of one": {254, 255}, "Signed of two": {254, 255, 2, 1},
		"Signed of eight places": {254, 255, 255, 255, 255, 255, 255, 255},
	}
	for name, call := range calls {
		for _, length := range []int{0, 1, 5} {
			for _, room := range []int{0, 1, 2, 3, 4, 5, 8, 9, 100} {
				memory := backing(room)
				got, e := call(memory[:length])
				if !bytes.Equal(memory, backing(room)) {
					t.Errorf("%s wrote behind %d bytes, or on them: %v", name, length, memory)
				}
				behind, ok := want[name]
				if !ok {
					if e == api.OK || len(got) != 0 {
						t.Errorf("%s behind %d bytes: %v, %v", name, length, got, e)
					}
					continue
				}
				expected := append(bytes.Repeat([]byte{0xaa}, length), behind...)
				for i := range memory {
					memory[i] = 0xbb
				}
				if e != api.OK || !bytes.Equal(got, expected) {
					t.Errorf("%s behind %d bytes, which are changed then: %v, %v, want %v", name, length, got, e, expected)
				}
				for i := range got {
					got[i] = 0xcc
				}
				_ = append(got, 0xcc)
				if !bytes.Equal(memory, bytes.Repeat([]byte{0xbb}, len(memory))) {
					t.Errorf("%s behind %d bytes shares its memory: %v", name, length, memory)
				}
				if bytes.Contains(got[:cap(got)][len(got):], []byte{0xaa}) {
					t.Errorf("%s shows what is behind %d bytes: %v", name, length, got[:cap(got)])
				}
			}
		}
		got, e := call(nil)
		if empty, f := call([]byte{}); e != f || !bytes.Equal(got, empty) || !bytes.Equal(got, want[name]) {
			t.Errorf("%s behind nil: %v, %v; behind an empty list: %v, %v", name, got, e, empty, f)
		}
	}
}

// TestPutKeepsNothing changes the numbers behind a call, and puts two lists behind
// one and the same.
func TestPutKeepsNothing(t *testing.T) {
	n, signed := []uint64{1, 2, 3}, []int{-1, -2, -3}
	one, _ := codec.Put(nil, 2, n...)
	two, _ := codec.Signed(nil, 2, signed...)
	n[1], signed[1] = 77, 77
	if !bytes.Equal(one, []byte{1, 0, 2, 0, 3, 0}) || !bytes.Equal(two, []byte{255, 255, 254, 255, 253, 255}) {
		t.Errorf("the results are %v, %v, when the numbers are changed", one, two)
	}
	base, _ := codec.Put(nil, 4, 9)
	one, _ = codec.Put(base, 1, 1)
	two, _ = codec.Signed(base, 1, -1)
	three, _ := codec.Put(base, 1)
	if !bytes.Equal(one, []byte{9, 0, 0, 0, 1}) || !bytes.Equal(two, []byte{9, 0, 0, 0, 255}) || !bytes.Equal(three, []byte{9, 0, 0, 0}) {
		t.Errorf("behind the same list stand %v, %v, %v", one, two, three)
	}
}

// patterns are lists of width bytes, among them those with one bit that is set, and
// with one that is not.
func patterns(width int) [][]byte {
	list := [][]byte{
		make([]byte, width), bytes.Repeat([]byte{255}, width), message(width), message(20)[20-width:],
		{1, 2, 3, 4, 5, 6, 7, 8}, {0xf1, 0xf2, 0xf3, 0xf4, 0xf5, 0xf6, 0xf7, 0xf8},
	}
	for i := range list {
		list[i] = list[i][:width]
	}
	for bit := range 8 * width {
		one := make([]byte, width)
		one[bit/8] = 1 << (bit % 8)
		others := bytes.Repeat([]byte{255}, width)
		others[bit/8] ^= 1 << (bit % 8)
		list = append(list, one, others)
	}
	return list
}

// checkState looks at what a Reader tells of itself.
func checkState(t *testing.T, what string, r *codec.Reader, left int, e, end api.Errno) {
	t.Helper()
	for range 2 { // asking changes nothing
		if r.Left() != left || r.Err() != e || r.End() != end {
			t.Errorf("%s: Left %d, Err %v, End %v, want %d, %v, %v", what, r.Left(), r.Err(), r.End(), left, e, end)
		}
	}
}

func TestNumAndInt(t *testing.T) {
	for width := 1; width <= 8; width++ {
		for _, b := range patterns(width) {
			r := codec.New(b)
			if got, want := r.Num(width), modelNum(b); bigOf(got).Cmp(want) != 0 {
				t.Errorf("Num(%d) of %v = %d, want %v", width, b, got, want)
			}
			checkState(t, "behind Num", r, 0, api.OK, api.OK)
			r = codec.New(b)
			if got, want := r.Int(width), modelInt(b); big.NewInt(int64(got)).Cmp(want) != 0 {
				t.Errorf("Int(%d) of %v = %d, want %v", width, b, got, want)
			}
			checkState(t, "behind Int", r, 0, api.OK, api.OK)
		}
	}
}

// TestNumAndIntOfBytes has numbers that stand in the test as they are.
func TestNumAndIntOfBytes(t *testing.T) {
	for _, x := range []struct {
		b      []byte
		num    uint64
		signed int
	}{
		{[]byte{0}, 0, 0}, {[]byte{127}, 127, 127}, {[]byte{128}, 128, -128}, {[]byte{255}, 255, -1},
		{[]byte{2, 1}, 258, 258}, {[]byte{255, 255}, 65535, -1}, {[]byte{0, 128}, 32768, -32768},
		{[]byte{255, 127}, 32767, 32767}, {[]byte{255, 0}, 255, 255}, {[]byte{0, 255}, 65280, -256},
		{[]byte{3, 2, 1}, 0x010203, 0x010203}, {[]byte{254, 255, 255}, 0xfffffe, -2},
		{[]byte{4, 3, 2, 1}, 0x01020304, 0x01020304}, {[]byte{0, 0, 0, 128}, 1 << 31, -1 << 31},
		{[]byte{255, 255, 255, 127}, 1<<31 - 1, 1<<31 - 1},
		{[]byte{5, 4, 3, 2, 1}, 0x0102030405, 0x0102030405}, {[]byte{0, 0, 0, 0, 128}, 1 << 39, -1 << 39},
		{[]byte{6, 5, 4, 3, 2, 1}, 0x010203040506, 0x010203040506},
		{[]byte{0, 0, 0, 0, 0, 0, 128}, 1 << 55, -1 << 55},
		{[]byte{8, 7, 6, 5, 4, 3, 2, 1}, 0x0102030405060708, 0x0102030405060708},
		{[]byte{0, 0, 0, 0, 0, 0, 0, 128}, 1 << 63, least},
		{[]byte{255, 255, 255, 255, 255, 255, 255, 127}, most, most},
		{[]byte{255, 255, 255, 255, 255, 255, 255, 255}, all, -1},
	} {
		width := len(x.b)
		b := append(slices.Concat(x.b, x.b), 1, 2)
		r := codec.New(b)
		if num, signed := r.Num(width), r.Int(width); num != x.num || signed != x.signed {
			t.Errorf("Num(%d), Int(%d) of %v = %d, %d, want %d, %d", width, width, b, num, signed, x.num, x.signed)
		}
		checkState(t, "behind both", r, 2, api.OK, api.ErrForm)
	}
}

func TestTake(t *testing.T) {
	text := message(300)
	for _, n := range []int{0, 1, 2, 8, 9, 100, 299, 300} {
		r := codec.New(text)
		if got := r.Take(n); !bytes.Equal(got, text[:n]) {
			t.Errorf("Take(%d) = %v", n, got)
		}
		end := api.ErrForm
		if n == 300 {
			end = api.OK
		}
		checkState(t, "behind Take", r, 300-n, api.OK, end)
		if got := r.Take(0); len(got) != 0 {
			t.Errorf("Take(0) behind Take(%d) = %v", n, got)
		}
		if got := r.Take(300 - n); !bytes.Equal(got, text[n:]) {
			t.Errorf("Take(%d) behind Take(%d) = %v", 300-n, n, got)
		}
		checkState(t, "behind all", r, 0, api.OK, api.OK)
		if got := r.Take(0); len(got) != 0 {
			t.Errorf("Take(0) at the end = %v", got)
		}
		checkState(t, "behind Take(0) at the end", r, 0, api.OK, api.OK)
	}
}

// TestTakeIsACopy changes what New was given, what Take returned, and what has room
// behind it.
func TestTakeIsACopy(t *testing.T) {
	text := message(40)
	memory := slices.Clone(text)
	r := codec.New(memory[:30])
	for i := range memory {
		memory[i] ^= 255
	}
	first := r.Take(10)
	if !bytes.Equal(first, text[:10]) {
		t.Errorf("Take(10) = %v, want %v", first, text[:10])
	}
	if room := first[:cap(first)][10:]; bytes.Contains(room, text[10:11]) {
		t.Errorf("Take(10) shows what is behind: %v", room)
	}
	second := r.Take(10)
	for i := range first[:cap(first)] {
		first[:cap(first)][i] = 0xee
	}
	_ = append(first, 0xee, 0xee)
	if !bytes.Equal(second, text[10:20]) {
		t.Errorf("the second Take(10) is %v when the first is changed, want %v", second, text[10:20])
	}
	if got, want := r.Num(8), modelNum(text[20:28]); bigOf(got).Cmp(want) != 0 {
		t.Errorf("Num(8) = %#x when the first Take is changed, want %#x", got, want)
	}
	for i := range memory {
		memory[i] ^= 0x0f
	}
	if last := r.Take(2); !bytes.Equal(last, text[28:30]) || !bytes.Equal(second, text[10:20]) {
		t.Errorf("Take(2) = %v, want %v; the second is %v", last, text[28:30], second)
	}
	for i := range memory {
		if memory[i] != text[i]^255^0x0f {
			t.Errorf("the caller's bytes are %v", memory)
		}
	}
	if empty := codec.New(nil).Take(0); len(empty) != 0 {
		t.Errorf("Take(0) of nothing = %v", empty)
	}
}

// TestTakeOfACopiedReader changes what a Reader and a copy of it took, each ahead of
// the other.
func TestTakeOfACopiedReader(t *testing.T) {
	r := codec.New([]byte{1, 2, 3, 4})
	twin := *r
	for _, one := range []*codec.Reader{r, &twin, r, &twin} {
		want := []byte{5 - byte(one.Left()), 6 - byte(one.Left())}
		got := one.Take(2)
		if !bytes.Equal(got, want) {
			t.Errorf("Take(2) = %v, want %v", got, want)
		}
		got[0], got[1] = 0xee, 0xee
		_ = append(got, 0xee, 0xee)
	}
}

// TestTakeOfNone takes nothing between bytes: what it returns has no room that the
// Reader knows.
func TestTakeOfNone(t *testing.T) {
	memory := []byte{1, 2, 3}
	r := codec.New(memory)
	_ = append(r.Take(0), 9, 9, 9)
	if got := r.Take(3); !bytes.Equal(got, []byte{1, 2, 3}) || memory[0] != 1 {
		t.Errorf("Take(3) = %v, of %v", got, memory)
	}
}

// checkFailed asks every method of a Reader that keeps e, several times.
func checkFailed(t *testing.T, what string, r *codec.Reader, e api.Errno) {
	t.Helper()
	for _, n := range append(badWidths(), 0, 1, 2, 3, 4, 5, 6, 7, 8, 300) {
		checkState(t, what, r, 0, e, e)
		if got := r.Num(n); got != 0 {
			t.Errorf("%s: Num(%d) = %d", what, n, got)
		}
		checkState(t, what, r, 0, e, e)
		if got := r.Int(n); got != 0 {
			t.Errorf("%s: Int(%d) = %d", what, n, got)
		}
		checkState(t, what, r, 0, e, e)
		if got := r.Take(n); len(got) != 0 {
			t.Errorf("%s: Take(%d) = %v", what, n, got)
		}
		checkState(t, what, r, 0, e, e)
	}
}

// asks are the ways to ask for bytes; each tells whether it got something.
func asks() map[string]func(r *codec.Reader, n int) bool {
	return map[string]func(r *codec.Reader, n int) bool{
		"Num":  func(r *codec.Reader, n int) bool { return r.Num(n) != 0 },
		"Int":  func(r *codec.Reader, n int) bool { return r.Int(n) != 0 },
		"Take": func(r *codec.Reader, n int) bool { return len(r.Take(n)) != 0 },
	}
}

// TestBadArguments asks with bad widths and counts when there are enough bytes, when
// there are too few, and when there are none.
func TestBadArguments(t *testing.T) {
	for name, ask := range asks() {
		for _, n := range badWidths() {
			if name == "Take" && n >= 0 {
				continue
			}
			for _, length := range []int{0, 1, 7, 8, 9, 300} {
				r := codec.New(bytes.Repeat([]byte{0xf3}, length))
				if ask(r, n) {
					t.Errorf("%s(%d) of %d bytes returns something", name, n, length)
				}
				checkFailed(t, name+" with a bad argument", r, api.ErrArg)
			}
		}
	}
}

// TestTooFew asks for more bytes than are left, at the beginning and later.
func TestTooFew(t *testing.T) {
	for name, ask := range asks() {
		for _, n := range []int{1, 2, 3, 4, 5, 6, 7, 8, 9, 100, 301, 1 << 31, 1<<32 + 1, most - 1, most} {
			if name != "Take" && n > 8 {
				continue
			}
			for left := range min(n, 10) {
				for _, before := range []int{0, 1, 290} {
					r := codec.New(bytes.Repeat([]byte{0xf3}, before+left))
					r.Take(before)
					if ask(r, n) {
						t.Errorf("%s(%d) with %d bytes left returns something", name, n, left)
					}
					checkFailed(t, name+" with too few bytes", r, api.ErrShort)
				}
			}
		}
	}
}

// TestTheFirstErrorIsKept makes each error behind each other one.
func TestTheFirstErrorIsKept(t *testing.T) {
	for name, ask := range asks() {
		for other, next := range asks() {
			r := codec.New([]byte{1, 2, 3})
			ask(r, -1)
			next(r, 8)
			checkFailed(t, name+" of -1 and "+other+" of 8", r, api.ErrArg)
			r = codec.New([]byte{1, 2, 3})
			ask(r, 8)
			next(r, -1)
			checkFailed(t, name+" of 8 and "+other+" of -1", r, api.ErrShort)
		}
	}
}

// TestEnd asks for the end at the beginning, between and at the end, and reads on.
func TestEnd(t *testing.T) {
	for _, b := range [][]byte{nil, {}} {
		checkState(t, "a Reader of nothing", codec.New(b), 0, api.OK, api.OK)
	}
	b := []byte{1, 2, 3, 255, 255, 4, 5, 6, 7}
	r := codec.New(b)
	checkState(t, "at the beginning", r, 9, api.OK, api.ErrForm)
	if got := r.Num(1); got != 1 {
		t.Errorf("Num(1) = %d", got)
	}
	checkState(t, "behind a byte", r, 8, api.OK, api.ErrForm)
	if got := r.Num(2); got != 0x0302 {
		t.Errorf("Num(2) = %#x", got)
	}
	checkState(t, "behind 3 bytes", r, 6, api.OK, api.ErrForm)
	if got := r.Int(2); got != -1 {
		t.Errorf("Int(2) = %d", got)
	}
	checkState(t, "behind 5 bytes", r, 4, api.OK, api.ErrForm)
	if got := r.Take(3); !bytes.Equal(got, []byte{4, 5, 6}) {
		t.Errorf("Take(3) = %v", got)
	}
	checkState(t, "with a byte left", r, 1, api.OK, api.ErrForm)
	if got := r.Int(1); got != 7 {
		t.Errorf("Int(1) = %d", got)
	}
	checkState(t, "at the end", r, 0, api.OK, api.OK)
	if got := r.Num(1); got != 0 {
		t.Errorf("Num(1) behind the end = %d", got)
	}
	checkFailed(t, "behind the end", r, api.ErrShort)
}

func TestReaderOfNobody(t *testing.T) {
	var none *codec.Reader
	var zero codec.Reader
	emptied, failed := codec.New([]byte{1, 2, 3}), codec.New(nil)
	emptied.Take(1)
	failed.Take(1)
	*emptied, *failed = codec.Reader{}, codec.Reader{}
	for what, r := range map[string]*codec.Reader{
		"a nil Reader": none, "a Reader that New did not make": {}, "a new Reader": new(codec.Reader),
		"a variable": &zero, "one that was emptied": emptied, "one that was emptied behind an error": failed,
	} {
		checkFailed(t, what, r, api.ErrNil)
	}
	within := struct{ codec.Reader }{}
	checkFailed(t, "an embedded Reader", &within.Reader, api.ErrNil)
	within.Reader = *codec.New([]byte{5})
	if got := within.Num(1); got != 5 {
		t.Errorf("Num(1) of an embedded Reader = %d", got)
	}
}

// modelReader tells what a Reader tells.
type modelReader struct {
	b  []byte
	at int
	e  api.Errno
}

// take returns the next n bytes, or nothing.
func (m *modelReader) take(n, lowest, highest int) []byte {
	switch {
	case m.e != api.OK:
	case n < lowest || n > highest:
		m.e = api.ErrArg
	case n > len(m.b)-m.at:
		m.e = api.ErrShort
	default:
		m.at += n
		return m.b[m.at-n : m.at]
	}
	return nil
}

func (m *modelReader) left() int {
	if m.e != api.OK {
		return 0
	}
	return len(m.b) - m.at
}

func (m *modelReader) end() api.Errno {
	if m.e == api.OK && m.at < len(m.b) {
		return api.ErrForm
	}
	return m.e
}

// checkNext asks a Reader and the model for the same.
func checkNext(t *testing.T, r *codec.Reader, m *modelReader, kind uint64, n int) {
	t.Helper()
	switch kind % 3 {
	case 0:
		if got, want := r.Num(n), modelNum(m.take(n, 1, 8)); bigOf(got).Cmp(want) != 0 {
			t.Errorf("Num(%d) = %d, want %v", n, got, want)
		}
	case 1:
		want := new(big.Int)
		if b := m.take(n, 1, 8); len(b) > 0 {
			want = modelInt(b)
		}
		if got := r.Int(n); big.NewInt(int64(got)).Cmp(want) != 0 {
			t.Errorf("Int(%d) = %d, want %v", n, got, want)
		}
	case 2:
		if got, want := r.Take(n), m.take(n, 0, most); !bytes.Equal(got, want) {
			t.Errorf("Take(%d) = %v, want %v", n, got, want)
		}
	}
	checkState(t, "behind it", r, m.left(), m.e, m.end())
}

// TestReadersByTurns asks several Readers of the same bytes, and a copy of one, by
// turns.
func TestReadersByTurns(t *testing.T) {
	draw := draws()
	for range 300 {
		b := message(int(draw() % 200))
		given := slices.Clone(b)
		var readers []*codec.Reader
		var models []*modelReader
		for range 3 {
			readers = append(readers, codec.New(given))
			models = append(models, &modelReader{b: b})
		}
		for step := range 80 {
			i := int(draw() % uint64(len(readers)))
			n := int(draw() % 9)
			if draw()%64 == 0 {
				n = int(draw())
			}
			checkNext(t, readers[i], models[i], draw(), n)
			if step == 20 {
				twin, model := *readers[i], *models[i]
				readers, models = append(readers, &twin), append(models, &model)
			}
		}
		if !bytes.Equal(given, b) {
			t.Fatalf("the bytes %v are %v", b, given)
		}
	}
}

// item is a number, or bytes, that is encoded and decoded.
type item struct {
	kind  uint64 // 0: Put, 1: Signed, 2: bytes
	width int
	n     uint64
	text  []byte
}

// items draws a list of them, of all kinds and widths.
func items(draw func() uint64) []item {
	list := make([]item, 1+draw()%12)
	for i := range list {
		x := item{kind: draw() % 3, width: 1 + int(draw()%8)}
		switch x.kind {
		case 0:
			x.n = draw() & greatest(x.width)
		case 1:
			free := 64 - 8*x.width
			x.n = uint64(int64(draw()) << free >> free)
		case 2:
			x.text = message(int(draw() % 9))
		}
		list[i] = x
	}
	return list
}

func (x item) put(t *testing.T, b []byte) []byte {
	e := api.OK
	switch x.kind {
	case 0:
		b, e = codec.Put(b, x.width, x.n)
	case 1:
		b, e = codec.Signed(b, x.width, int(x.n))
	case 2:
		b = slices.Concat(b, x.text)
	}
	if e != api.OK {
		t.Fatalf("%+v is not encoded: %v", x, e)
	}
	return b
}

// read tells whether the Reader returns what was put.
func (x item) read(r *codec.Reader) bool {
	switch x.kind {
	case 0:
		return r.Num(x.width) == x.n
	case 1:
		return r.Int(x.width) == int(x.n)
	}
	return bytes.Equal(r.Take(len(x.text)), x.text)
}

// TestThereAndBack decodes what was encoded, and each proper prefix of it: there, all
// that is whole is read, and the rest is too short.
func TestThereAndBack(t *testing.T) {
	draw := draws()
	for range 300 {
		var b []byte
		var ends []int
		list := items(draw)
		for _, x := range list {
			b = x.put(t, b)
			ends = append(ends, len(b))
		}
		for length := range len(b) + 1 {
			r := codec.New(b[:length])
			for i, x := range list {
				whole := ends[i] <= length
				if got := x.read(r); whole && !got {
					t.Errorf("%+v is not read from %v", x, b[:length])
				}
				if whole && r.Err() != api.OK || !whole && r.Err() != api.ErrShort {
					t.Errorf("Err behind %+v of %v is %v", x, b[:length], r.Err())
				}
			}
			want := api.ErrShort
			if length == len(b) {
				want = api.OK
			}
			checkState(t, "behind all", r, 0, want, want)
		}
	}
}

// TestEachNumberThereAndBack encodes all numbers of one byte and of two, and those at
// the ends of the other widths.
func TestEachNumberThereAndBack(t *testing.T) {
	check := func(width int, x uint64) {
		if b, e := codec.Put(nil, width, x); e == api.OK {
			r := codec.New(b)
			if got := r.Num(width); got != x || r.End() != api.OK {
				t.Errorf("%d in %d bytes comes back as %d, %v", x, width, got, r.End())
			}
			checkPrefixes(t, width, b)
		}
		if b, e := codec.Signed(nil, width, int(x)); e == api.OK {
			r := codec.New(b)
			if got := r.Int(width); got != int(x) || r.End() != api.OK {
				t.Errorf("%d in %d bytes comes back as %d, %v", int(x), width, got, r.End())
			}
			checkPrefixes(t, width, b)
		}
	}
	for x := -1 << 15; x < 1<<16; x++ {
		check(1, uint64(x))
		check(2, uint64(x))
	}
	draw := draws()
	for width := 1; width <= 8; width++ {
		for _, x := range numbers() {
			check(width, x)
		}
		for range 500 {
			check(width, draw())
		}
	}
}

// checkPrefixes reads a number from each proper prefix of its encoding.
func checkPrefixes(t *testing.T, width int, b []byte) {
	t.Helper()
	for length := range width {
		for name, ask := range asks() {
			r := codec.New(b[:length])
			if ask(r, width) || r.Err() != api.ErrShort || r.End() != api.ErrShort || r.Left() != 0 {
				t.Errorf("%s(%d) of %v: %v, %v, %d left", name, width, b[:length], r.Err(), r.End(), r.Left())
			}
		}
	}
}

// TestErrorsAsNumbers holds the errors against their numbers.
func TestErrorsAsNumbers(t *testing.T) {
	_, bad := codec.Put(nil, 0)
	_, long := codec.Signed(nil, 1, 128)
	short, left, none := codec.New(nil), codec.New([]byte{1}), new(codec.Reader)
	short.Num(1)
	var got []string
	for _, e := range []api.Errno{bad, long, short.Err(), left.End(), none.Err()} {
		got = append(got, string(rune('0'+e)))
	}
	if s := strings.Join(got, " "); s != "2 3 4 5 1" {
		t.Errorf("the errors are %s", s)
	}
}
