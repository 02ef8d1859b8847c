package stream_test

import (
	"bytes"
	"encoding/binary"
	"math"
	"math/big"
	"reflect"
	"testing"

	"umbra/api"
	"umbra/chacha"
	"umbra/stream"
)

const top = math.MaxUint32 // a number of which every bit is set

// draws returns a function that draws numbers, the same ones in every run.
func draws() func() uint64 {
	state := uint64(0x9e3779b97f4a7c15)
	return func() uint64 {
		state ^= state << 13
		state ^= state >> 7
		state ^= state << 17
		return state
	}
}

// place is what a number depends on.
type place struct {
	seed                       uint64
	pixel, sample, bounce, dim int
}

func (p place) at() uint32 {
	return stream.At(p.seed, p.pixel, p.sample, p.bounce, p.dim)
}

// model takes the number from the stream of the whole bounce, whose four blocks
// hold the numbers of 64 dims; it takes remainders of big numbers for lower bits.
func (p place) model() uint32 {
	lower := func(x, bits int) uint32 {
		from := new(big.Int).Lsh(big.NewInt(1), uint(bits))
		return uint32(from.Mod(big.NewInt(int64(x)), from).Uint64())
	}
	key := append([]byte("umbra sample stream v1"), 0, 0)
	key = binary.LittleEndian.AppendUint64(key, p.seed)
	nonce := binary.LittleEndian.AppendUint32(nil, lower(p.pixel, 32))
	nonce = binary.LittleEndian.AppendUint32(nonce, lower(p.sample, 32))
	nonce = append(nonce, 0, 0, 0, 0)
	numbers := chacha.Stream([32]byte(key), 4*lower(p.bounce, 16), [12]byte(nonce), 256)
	return binary.LittleEndian.Uint32(numbers[4*lower(p.dim, 6):])
}

// edges are the numbers at which lower bits begin and end, and those beside them.
func edges() []int {
	list := []int{math.MinInt, math.MinInt + 1, math.MaxInt, math.MaxInt - 1}
	for _, bits := range []int{0, 4, 5, 6, 7, 15, 16, 17, 31, 32, 33, 48, 62} {
		for by := -1; by <= 1; by++ {
			list = append(list, 1<<bits+by, -(1<<bits)+by)
		}
	}
	return append(list, 7, 31, 37, 47, 49, 100, 0xabcd, 0x11223344, 0x0123456789abcdef)
}

// places are one after the other at each edge, in each of the four numbers and in
// all of them.
func places() []place {
	base := place{0x0123456789abcdef, 0x11223344, 0x55667788, 0x99aa, 37}
	list := []place{{}, base}
	for _, x := range edges() {
		for i := range 4 {
			for _, p := range []place{{}, base} {
				*[]*int{&p.pixel, &p.sample, &p.bounce, &p.dim}[i] = x
				list = append(list, p)
			}
		}
		list = append(list, place{base.seed, x, x, x, x}, place{math.MaxUint64, x, x, x, x})
	}
	return list
}

func TestKey(t *testing.T) {
	text := []byte{
		'u', 'm', 'b', 'r', 'a', ' ', 's', 'a', 'm', 'p', 'l', 'e', ' ', 's', 't', 'r', 'e', 'a', 'm', ' ', 'v', '1', 0, 0,
	}
	for seed, want := range map[uint64][]byte{
		0:                  {0, 0, 0, 0, 0, 0, 0, 0},
		1:                  {1, 0, 0, 0, 0, 0, 0, 0},
		0x0123456789abcdef: {0xef, 0xcd, 0xab, 0x89, 0x67, 0x45, 0x23, 0x01},
		0x8877665544332211: {0x11, 0x22, 0x33, 0x44, 0x55, 0x66, 0x77, 0x88},
		1 << 32:            {0, 0, 0, 0, 1, 0, 0, 0},
		1 << 63:            {0, 0, 0, 0, 0, 0, 0, 0x80},
		math.MaxUint64:     {255, 255, 255, 255, 255, 255, 255, 255},
	} {
		got := stream.Key(seed)
		if !bytes.Equal(got[:24], text) || !bytes.Equal(got[24:], want) {
			t.Errorf("Key(%#x) = %q", seed, got)
		}
	}
}

func TestKeyOfMany(t *testing.T) {
	draw := draws()
	for bit := range 64 {
		for _, seed := range []uint64{1 << bit, ^(1 << bit), draw()} {
			key := stream.Key(seed)
			if string(key[:24]) != "umbra sample stream v1\x00\x00" || binary.LittleEndian.Uint64(key[24:]) != seed {
				t.Errorf("Key(%#x) = %q", seed, key)
			}
		}
	}
}

// TestAt has numbers that another implementation of ChaCha20 gives.
func TestAt(t *testing.T) {
	const least, most = math.MinInt, math.MaxInt
	for _, x := range []struct {
		place
		want uint32
	}{
		{place{0, 0, 0, 0, 0}, 0xcbfd4744},
		{place{1, 0, 0, 0, 0}, 0x1b2de853},
		{place{0, 1, 0, 0, 0}, 0x4f308130},
		{place{0, 0, 1, 0, 0}, 0x2dde413c},
		{place{0, 0, 0, 1, 0}, 0xc7b4a195},
		{place{0, 0, 0, 0, 1}, 0xfdfb72d7},
		{place{0, 0, 0, 0, 15}, 0x2269f5d5},
		{place{0, 0, 0, 0, 16}, 0xc727c187},
		{place{0, 0, 0, 0, 63}, 0xa709e004},
		{place{0x0123456789abcdef, 0x11223344, 0x55667788, 0xabcd, 37}, 0x01b9bf57},
		{place{5, 307199, 63, 7, 22}, 0xe1874ae0},
		{place{1<<63 + 1, 1 << 31, -1 << 31, 65535, 48}, 0xde104234},
		{place{math.MaxUint64, -1, -1, -1, -1}, 0x266322c4},
		{place{math.MaxUint64, most, most, most, most}, 0x266322c4},
		{place{1 << 63, least, least, least, least}, 0xd6779133},
	} {
		if got := x.at(); got != x.want {
			t.Errorf("At of %v = %#x, want %#x", x.place, got, x.want)
		}
		if got := x.model(); got != x.want {
			t.Errorf("the model of %v = %#x, want %#x", x.place, got, x.want)
		}
	}
}

func TestAtOfEdges(t *testing.T) {
	for _, p := range places() {
		if got, want := p.at(), p.model(); got != want {
			t.Errorf("At of %v = %#x, want %#x", p, got, want)
		}
	}
}

// TestAtOfDims asks for the numbers of all dims, below and above those that count,
// with the bounces at the edges.
func TestAtOfDims(t *testing.T) {
	for _, bounce := range []int{0, 1, 2, 255, 256, 65534, 65535, 65536, 65537, -1, -65536} {
		for dim := -130; dim <= 130; dim++ {
			p := place{99, 1000, 3, bounce, dim}
			if got, want := p.at(), p.model(); got != want {
				t.Errorf("At of %v = %#x, want %#x", p, got, want)
			}
		}
	}
}

// TestAtOfLowerBits compares numbers that differ in the upper bits alone, and in the
// lower ones.
func TestAtOfLowerBits(t *testing.T) {
	base := place{7, 123456, 78, 9, 10}
	want := base.at()
	for bit := range 64 {
		for i, bits := range []int{32, 32, 16, 6} {
			p := base
			*[]*int{&p.pixel, &p.sample, &p.bounce, &p.dim}[i] ^= 1 << bit
			if same := p.at() == want; same != (bit >= bits) {
				t.Errorf("At of %v is %#x, and that of %v %#x", p, p.at(), base, want)
			}
		}
		p := base
		p.seed ^= 1 << bit
		if p.at() == want {
			t.Errorf("At of %v is that of %v", p, base)
		}
	}
}

func TestAtOfMany(t *testing.T) {
	draw := draws()
	for range 3000 {
		p := place{draw(), int(draw()), int(draw()), int(draw()), int(draw())}
		if got, want := p.at(), p.model(); got != want {
			t.Fatalf("At of %v = %#x, want %#x", p, got, want)
		}
	}
}

func TestBelow(t *testing.T) {
	const half, all = 1 << 31, 1 << 32
	for _, x := range []struct {
		x       uint32
		n, want int
	}{
		{half, 6, 3},
		{0, 1, 0}, {half, 1, 0}, {top, 1, 0},
		{0, 0, 0}, {half, 0, 0}, {top, 0, 0},
		{half, -1, 0}, {top, -1, 0}, {top, -6, 0}, {top, -half, 0}, {top, -all, 0},
		{0, math.MinInt, 0}, {half, math.MinInt, 0}, {top, math.MinInt, 0}, {top, math.MinInt + 1, 0},
		{half - 1, 2, 0}, {half, 2, 1}, {top, 2, 1}, {0, 2, 0},
		{0x55555555, 3, 0}, {0x55555556, 3, 1}, {0xaaaaaaaa, 3, 1}, {0xaaaaaaab, 3, 2}, {top, 3, 2},
		{0, half, 0}, {1, half, 0}, {2, half, 1}, {3, half, 1}, {half, half, half / 2},
		{top, half, half - 1}, {top - 1, half, half - 1}, {top - 2, half, half - 2},
		{top, half - 1, half - 2}, {half, half - 1, half/2 - 1}, {1, half - 1, 0},
		{0, half + 1, 0}, {half, half + 1, half / 2}, {top, half + 1, half - 1}, {3, half + 1, 1},
		{0, all, 0}, {1, all, 0}, {2, all, 1}, {half, all, half / 2}, {top, all, half - 1},
		{top, all - 1, half - 1}, {top, all + 1, half - 1}, {half, all + 1, half / 2},
		{0, math.MaxInt, 0}, {half, math.MaxInt, half / 2}, {top, math.MaxInt, half - 1}, {top, 1 << 62, half - 1},
	} {
		if got := stream.Below(x.x, x.n); got != x.want {
			t.Errorf("Below(%#x, %d) = %d, want %d", x.x, x.n, got, x.want)
		}
	}
}

// checkBelow compares Below with integers without bounds.
func checkBelow(t *testing.T, x uint32, n int) {
	t.Helper()
	got := stream.Below(x, n)
	counts := int64(min(max(n, 0), 1<<31))
	want := new(big.Int).Mul(big.NewInt(int64(x)), big.NewInt(counts))
	want.Div(want, big.NewInt(1<<32))
	if int64(got) != want.Int64() {
		t.Fatalf("Below(%#x, %d) = %d, want %v", x, n, got, want)
	}
	if got < 0 || got >= max(n, 1) {
		t.Fatalf("Below(%#x, %d) = %d", x, n, got)
	}
}

func TestBelowOfMany(t *testing.T) {
	draw := draws()
	for range 20000 {
		x, n := uint32(draw()), int(draw())
		checkBelow(t, x, n)
		checkBelow(t, x, n>>(draw()%64))
		checkBelow(t, x, int(uint32(n)))
		checkBelow(t, x>>(draw()%32), n>>(draw()%64))
	}
	for _, x := range []uint32{0, 1, 1<<31 - 1, 1 << 31, 1<<31 + 1, top - 1, top} {
		for _, n := range edges() {
			checkBelow(t, x, n)
		}
	}
}

// TestBelowOfAll looks whether each number below n comes out of its share of
// all x: the first x of a number is the one at which its multiple is reached.
func TestBelowOfAll(t *testing.T) {
	for n := 1; n <= 300; n++ {
		for i := range n {
			first := uint32((uint64(i)<<32 + uint64(n) - 1) / uint64(n))
			if got := stream.Below(first, n); got != i {
				t.Errorf("Below(%#x, %d) = %d, want %d", first, n, got, i)
			}
			if i > 0 && stream.Below(first-1, n) != i-1 {
				t.Errorf("Below(%#x, %d) = %d, want %d", first-1, n, stream.Below(first-1, n), i-1)
			}
		}
	}
}

func TestUnit(t *testing.T) {
	for x, want := range map[uint32]api.Fix{
		0: 0, 1: 1, 2: 2, 1<<31 - 1: api.One/2 - 1, 1 << 31: api.One / 2, 1<<31 + 1: api.One/2 + 1,
		1 << 30: api.One / 4, 0x01234567: 0x01234567, 0x89abcdef: 0x89abcdef, top - 1: api.One - 2, top: api.One - 1,
	} {
		if got := stream.Unit(x); got != want {
			t.Errorf("Unit(%#x) = %d, want %d", x, got, want)
		}
	}
	draw := draws()
	for range 10000 {
		x := uint32(draw())
		if got := stream.Unit(x); int64(got) != int64(x) || got < 0 || got >= api.One {
			t.Errorf("Unit(%#x) = %d", x, got)
		}
	}
}

// source returns the Source of a place.
func (p place) source() *stream.Source {
	return stream.New(p.seed, p.pixel, p.sample)
}

// checkNext asks a Source, which is that of p, for the number of p.
func checkNext(t *testing.T, s *stream.Source, p place) {
	t.Helper()
	if got, want := s.Next(p.bounce, p.dim), p.model(); got != want {
		t.Fatalf("Next(%d, %d) of the Source of %v = %#x, want %#x", p.bounce, p.dim, p, got, want)
	}
}

func TestNext(t *testing.T) {
	for _, p := range places() {
		s := p.source()
		checkNext(t, s, p)
		checkNext(t, s, p)
		if got, want := s.Next(p.bounce, p.dim), p.at(); got != want {
			t.Errorf("Next of %v is %#x, but At %#x", p, got, want)
		}
	}
}

// TestNextOfTwo asks a Source for the numbers of every two dims and of every two
// bounces behind each other, then for the first one again.
func TestNextOfTwo(t *testing.T) {
	for one := range 64 {
		for two := range 64 {
			p, q := place{3, 4, 5, 6, one}, place{3, 4, 5, 6, two}
			s := p.source()
			checkNext(t, s, p)
			checkNext(t, s, q)
			checkNext(t, s, p)
		}
	}
	bounces := []int{0, 1, 2, 3, 4, 255, 256, 16383, 16384, 65535, 65536, 65537, -1, -4, math.MinInt, math.MaxInt}
	for _, one := range bounces {
		for _, two := range bounces {
			for _, dim := range []int{0, 15, 16, 17, 31, 32, 63, 64} {
				p, q := place{3, 4, 5, one, dim}, place{3, 4, 5, two, 63 - dim}
				s := p.source()
				checkNext(t, s, p)
				checkNext(t, s, q)
				q.dim = dim
				checkNext(t, s, q)
				checkNext(t, s, p)
			}
		}
	}
}

// TestNextInWhateverOrder draws bounces and dims, few enough to come again.
func TestNextInWhateverOrder(t *testing.T) {
	draw := draws()
	for range 30 {
		p := place{seed: draw(), pixel: int(draw()), sample: int(draw())}
		s := p.source()
		for range 200 {
			p.bounce, p.dim = int(draw()%3), int(draw()%64)
			for range draw() % 3 {
				checkNext(t, s, p)
			}
		}
	}
}

// TestNextOfTheFirstBlock begins with the block of counter 0, with which nothing
// that is kept may be mistaken.
func TestNextOfTheFirstBlock(t *testing.T) {
	for _, p := range []place{{}, {dim: 15}, {bounce: 65536}, {dim: 64}, {seed: 1}, {pixel: 1 << 32, sample: 1 << 32}} {
		s := p.source()
		checkNext(t, s, p)
		p.dim += 16
		checkNext(t, s, p)
		p.dim -= 16
		checkNext(t, s, p)
	}
}

func TestNextOfNobody(t *testing.T) {
	var none *stream.Source
	var zero stream.Source
	twin, emptied := zero, stream.New(1, 2, 3)
	emptied.Next(4, 5)
	*emptied = zero
	for name, s := range map[string]*stream.Source{
		"a nil Source": none, "a Source that New did not make": {}, "a new Source": new(stream.Source),
		"a variable": &zero, "a copy of one": &twin, "one that was emptied": emptied,
	} {
		for _, x := range append(edges(), 0, 1, 2) {
			for _, got := range []uint32{s.Next(0, 0), s.Next(x, 0), s.Next(0, x), s.Next(x, x)} {
				if got != 0 {
					t.Errorf("Next of %s, asked with %d, = %#x", name, x, got)
				}
			}
		}
		if s != nil && !reflect.DeepEqual(*s, stream.Source{}) {
			t.Errorf("%s has changed to %v", name, *s)
		}
	}
}

// TestSourcesStandAlone asks Sources by turns that differ in one number each, also
// for the same bounce and dim.
func TestSourcesStandAlone(t *testing.T) {
	all := []place{{1, 2, 3, 0, 0}, {2, 2, 3, 0, 0}, {1, 3, 3, 0, 0}, {1, 2, 4, 0, 0}, {1, 3, 2, 0, 0}, {1, 2, 3, 0, 0}}
	var sources []*stream.Source
	for _, p := range all {
		sources = append(sources, p.source())
	}
	draw := draws()
	for range 500 {
		bounce, dim := int(draw()%2), int(draw()%20)
		for i, p := range all {
			p.bounce, p.dim = bounce, dim
			checkNext(t, sources[i], p)
			if got, want := p.at(), p.model(); got != want {
				t.Fatalf("At of %v = %#x, want %#x", p, got, want)
			}
		}
		p := all[draw()%6]
		p.bounce, p.dim = int(draw()), int(draw())
		checkNext(t, p.source(), p)
	}
}

// TestCopiesOfASource asks a Source and a copy of it by turns, and stores one over
// another.
func TestCopiesOfASource(t *testing.T) {
	p, q := place{11, 12, 13, 14, 15}, place{21, 22, 23, 14, 15}
	s, other := p.source(), q.source()
	fresh := *s
	checkNext(t, s, p)
	checkNext(t, other, q)
	twin := *s
	p.dim = 16
	checkNext(t, s, p)
	checkNext(t, &fresh, p)
	p.bounce = 2
	checkNext(t, &twin, p)
	checkNext(t, s, p)
	p.bounce, p.dim = 14, 15
	checkNext(t, &twin, p)
	checkNext(t, s, p)
	*s = *other
	q.dim = 14
	checkNext(t, s, q)
	checkNext(t, other, q)
	*other = twin
	checkNext(t, other, p)
	checkNext(t, s, q)
}
