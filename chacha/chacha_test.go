package chacha_test

import (
	"bytes"
	"encoding/hex"
	"math"
	"strings"
	"testing"

	"umbra/api"
	"umbra/chacha"
)

const top = math.MaxUint32 // the greatest counter; behind it comes 0

// input is what a stream hangs on.
type input struct {
	key     [32]byte
	counter uint32
	nonce   [12]byte
}

// zeros, ones and different are inputs of bytes 0, of bytes 255, and of bytes
// that all differ.
func zeros() input { return input{} }

func ones() input {
	in := input{counter: top}
	for i := range in.key {
		in.key[i] = 255
	}
	for i := range in.nonce {
		in.nonce[i] = 255
	}
	return in
}

func different() input {
	in := input{counter: 0x89abcdef}
	for i := range in.key {
		in.key[i] = byte(7*i + 129)
	}
	for i := range in.nonce {
		in.nonce[i] = byte(13*i + 77)
	}
	return in
}

// standard is the input of the examples of RFC 8439, with another nonce each.
func standard(nonce string) input {
	in := input{counter: 1}
	for i := range in.key {
		in.key[i] = byte(i)
	}
	copy(in.nonce[:], unhex(nonce))
	return in
}

// inputs returns inputs at the edges, each with the counters at their ends, and
// some that are drawn.
func inputs() []input {
	var l []input
	for _, in := range []input{zeros(), ones(), different()} {
		for _, counter := range []uint32{0, 1, 2, 1 << 31, top - 1, top, in.counter} {
			in.counter = counter
			l = append(l, in)
		}
	}
	draw := draws()
	for range 50 {
		in := input{counter: draw()}
		for i := range in.key {
			in.key[i] = byte(draw() >> 7)
		}
		for i := range in.nonce {
			in.nonce[i] = byte(draw() >> 7)
		}
		l = append(l, in)
	}
	return l
}

// draws returns a function that draws numbers, the same ones in every run.
func draws() func() uint32 {
	state := uint64(0x9e3779b97f4a7c15)
	return func() uint32 {
		state ^= state << 13
		state ^= state >> 7
		state ^= state << 17
		return uint32(state >> 16)
	}
}

// unhex returns the bytes that s writes in hexadecimal digits and spaces.
func unhex(s string) []byte {
	b, err := hex.DecodeString(strings.Join(strings.Fields(s), ""))
	if err != nil {
		panic(err)
	}
	return b
}

// message returns n bytes that do not repeat soon.
func message(n int) []byte {
	draw := draws()
	b := make([]byte, n)
	for i := range b {
		b[i] = byte(draw() >> 5)
	}
	return b
}

// The model counts in 64 bits: a number of 32 bits is a remainder of 2^32, and
// it is rotated by a product whose two halves are added.

const size = 1 << 32

func modelTurn(x uint64, by int) uint64 {
	for range by {
		x *= 2
	}
	return x%size + x/size
}

func modelQuarter(s [4]uint64) [4]uint64 {
	for _, step := range [4]struct{ to, from, turned, by int }{{0, 1, 3, 16}, {2, 3, 1, 12}, {0, 1, 3, 8}, {2, 3, 1, 7}} {
		s[step.to] = (s[step.to] + s[step.from]) % size
		s[step.turned] = modelTurn(s[step.turned]^s[step.to], step.by)
	}
	return s
}

// modelState is the state as four rows of four numbers.
func modelState(in input) (rows [4][4]uint64) {
	all := append([]byte("expand 32-byte k"), in.key[:]...)
	for rest, i := in.counter, 0; i < 4; i++ {
		all = append(all, byte(rest%256))
		rest /= 256
	}
	all = append(all, in.nonce[:]...)
	for i := len(all) - 1; i >= 0; i-- {
		at := &rows[i/16][i/4%4]
		*at = *at*256 + uint64(all[i])
	}
	return rows
}

// modelColumns applies Quarter to the columns, which begin at the given indexes
// of their rows: those of a diagonal move on by one a row.
func modelColumns(rows [4][4]uint64, move int) [4][4]uint64 {
	for i := range 4 {
		var q [4]uint64
		for row := range q {
			q[row] = rows[row][(i+row*move)%4]
		}
		for row, x := range modelQuarter(q) {
			rows[row][(i+row*move)%4] = x
		}
	}
	return rows
}

func modelBlock(in input) []byte {
	start := modelState(in)
	rows := start
	for range 10 {
		rows = modelColumns(modelColumns(rows, 0), 1)
	}
	var block []byte
	for i := range 16 {
		sum := (rows[i/4][i%4] + start[i/4][i%4]) % size
		for range 4 {
			block = append(block, byte(sum%256))
			sum /= 256
		}
	}
	return block
}

func modelStream(in input, n int) []byte {
	n = min(max(n, 0), 65536)
	var l []byte
	for len(l) < n {
		l = append(l, modelBlock(in)...)
		in.counter = uint32((uint64(in.counter) + 1) % size)
	}
	return l[:n]
}

func modelXor(in input, data ...[]byte) []byte {
	text := bytes.Join(data, nil)
	text = text[:min(len(text), 65536)]
	for i, b := range modelStream(in, len(text)) {
		text[i] ^= b
	}
	return text
}

func stream(in input, n int) []byte {
	return chacha.Stream(in.key, in.counter, in.nonce, n)
}

func xor(in input, data ...[]byte) []byte {
	return chacha.Xor(in.key, in.counter, in.nonce, data...)
}

// each calls f with the list as it is, and with each number at an edge in the place
// of each one of the list.
func each(list [4]uint32, f func(s [4]uint32)) {
	f(list)
	for i := range list {
		for _, x := range []uint32{0, 1, 1 << 31, top - 1, top} {
			s := list
			s[i] = x
			f(s)
		}
	}
}

func TestQuarter(t *testing.T) {
	for _, x := range []struct{ s, want [4]uint32 }{
		// The chapter's example, and RFC 8439, 2.2.1.
		{[4]uint32{0x11111111, 0x01020304, 0x9b8d6f43, 0x01234567}, [4]uint32{0xea2a92f4, 0xcb1cf8ce, 0x4581472e, 0x5881c4bb}},
		{[4]uint32{0x516461b1, 0x2a5f714c, 0x53372767, 0x3d631689}, [4]uint32{0xbdb886dc, 0xcfacafd2, 0xe46bea80, 0xccc07c79}},
		// Zeros, and a single bit.
		{[4]uint32{}, [4]uint32{}},
		{[4]uint32{1, 0, 0, 0}, [4]uint32{0x10000001, 0x80808808, 0x01010110, 0x01000110}},
		{[4]uint32{0, 1, 0, 0}, [4]uint32{0x10001001, 0x88888808, 0x01110110, 0x01100110}},
		{[4]uint32{0, 0, 1, 0}, [4]uint32{0x00001000, 0x08080080, 0x00100001, 0x00100000}},
		{[4]uint32{0, 0, 0, 1}, [4]uint32{0x10000000, 0x80800808, 0x01010010, 0x01000010}},
		// The sums go beyond 32 bits: the first one of a, the first one of c, and
		// all of them.
		{[4]uint32{top, 1, 0, 0}, [4]uint32{0x00001000, 0x08080000, 0x00100000, 0x00100000}},
		{[4]uint32{top, top, 0, 0}, [4]uint32{0x0ffffffe, 0x7f80f788, 0x00ff01ef, 0x010001f0}},
		{[4]uint32{0, 0, top, 1 << 16}, [4]uint32{0, 0x8000, 0x100, 0x100}},
		{[4]uint32{0, 0, top, top}, [4]uint32{0xffffefff, 0xf80800ff, 0x000ffffe, 0x00100000}},
		{[4]uint32{1 << 31, 1 << 31, 1 << 31, 1 << 31}, [4]uint32{0x08000000, 0x40400444, 0x80808008, 0x00800008}},
		{[4]uint32{top, top, top, top}, [4]uint32{0xf0000ffd, 0x88790878, 0x0110fdef, 0x010ffdf0}},
	} {
		if got := chacha.Quarter(x.s); got != x.want {
			t.Errorf("Quarter(%#x) = %#x, want %#x", x.s, got, x.want)
		}
	}
}

func TestQuarterOfMany(t *testing.T) {
	check := func(s [4]uint32) {
		var wide [4]uint64
		for i, x := range s {
			wide[i] = uint64(x)
		}
		wide = modelQuarter(wide)
		for i, x := range chacha.Quarter(s) {
			if uint64(x) != wide[i] {
				t.Errorf("Quarter(%#x)[%d] = %#x, want %#x", s, i, x, wide[i])
			}
		}
	}
	each([4]uint32{}, check)
	each([4]uint32{top, top, top, top}, check)
	draw := draws()
	for range 500 {
		each([4]uint32{draw(), draw(), draw(), draw()}, check)
	}
}

func TestState(t *testing.T) {
	for _, x := range []struct {
		in   input
		want [16]uint32
	}{
		// RFC 8439, 2.3.2.
		{standard("00000009 0000004a 00000000"), [16]uint32{
			0x61707865, 0x3320646e, 0x79622d32, 0x6b206574,
			0x03020100, 0x07060504, 0x0b0a0908, 0x0f0e0d0c,
			0x13121110, 0x17161514, 0x1b1a1918, 0x1f1e1d1c,
			0x00000001, 0x09000000, 0x4a000000, 0x00000000,
		}},
		{zeros(), [16]uint32{0x61707865, 0x3320646e, 0x79622d32, 0x6b206574}},
		{ones(), [16]uint32{
			0x61707865, 0x3320646e, 0x79622d32, 0x6b206574,
			top, top, top, top, top, top, top, top, top, top, top, top,
		}},
		{different(), [16]uint32{
			0x61707865, 0x3320646e, 0x79622d32, 0x6b206574,
			0x968f8881, 0xb2aba49d, 0xcec7c0b9, 0xeae3dcd5,
			0x06fff8f1, 0x221b140d, 0x3e373029, 0x5a534c45,
			0x89abcdef, 0x74675a4d, 0xa89b8e81, 0xdccfc2b5,
		}},
	} {
		if got := chacha.State(x.in.key, x.in.counter, x.in.nonce); got != x.want {
			t.Errorf("State(%v) = %#x, want %#x", x.in, got, x.want)
		}
	}
	for _, in := range inputs() {
		rows := modelState(in)
		for i, x := range chacha.State(in.key, in.counter, in.nonce) {
			if uint64(x) != rows[i/4][i%4] {
				t.Errorf("State(%v)[%d] = %#x, want %#x", in, i, x, rows[i/4][i%4])
			}
		}
	}
}

// TestStateOfOneBit looks for every bit of the key, of the counter and of the
// nonce where it belongs, and nowhere else.
func TestStateOfOneBit(t *testing.T) {
	plain := chacha.State([32]byte{}, 0, [12]byte{})
	check := func(in input, at, bit int) {
		want := plain
		want[at] = 1 << bit
		if got := chacha.State(in.key, in.counter, in.nonce); got != want {
			t.Errorf("State(%v) = %#x, want %#x", in, got, want)
		}
	}
	for i := range 256 {
		var in input
		in.key[i/8] = 1 << (i % 8)
		check(in, 4+i/32, i%32)
	}
	for i := range 32 {
		check(input{counter: 1 << i}, 12, i)
	}
	for i := range 96 {
		var in input
		in.nonce[i/8] = 1 << (i % 8)
		check(in, 13+i/32, i%32)
	}
}

func TestBlock(t *testing.T) {
	keyed := func(at int, x byte, counter uint32) input {
		in := input{counter: counter}
		in.key[at] = x
		return in
	}
	last, greatest, first := zeros(), zeros(), ones()
	last.nonce[11] = 2
	greatest.counter = top
	first.counter = 0
	for _, x := range []struct {
		name, want string
		in         input
	}{
		{"RFC 8439, 2.3.2", `
			10f1e7e4d13b5915500fdd1fa32071c4 c7d1f4c733c068030422aa9ac3d46c4e
			d2826446079faa0914c2d705d98b02a2 b5129cd1de164eb9cbd083e8a2503c4e`, standard("00000009 0000004a 00000000")},
		{"RFC 8439, A.1, 1: all zeros", `
			76b8e0ada0f13d90405d6ae55386bd28 bdd219b8a08ded1aa836efcc8b770dc7
			da41597c5157488d7724e03fb8d84a37 6a43b8f41518a11cc387b669b2ee6586`, zeros()},
		{"RFC 8439, A.1, 2: the counter 1", `
			9f07e7be5551387a98ba977c732d080d cb0f29a048e3656912c6533e32ee7aed
			29b721769ce64e43d57133b074d839d5 31ed1f28510afb45ace10a1f4b794d6f`, keyed(0, 0, 1)},
		{"RFC 8439, A.1, 3: the last byte of the key", `
			3aeb5224ecf849929b9d828db1ced4dd 832025e8018b8160b82284f3c949aa5a
			8eca00bbb4a73bdad192b5c42f73f2fd 4e273644c8b36125a64addeb006c13a0`, keyed(31, 1, 1)},
		{"RFC 8439, A.1, 4: the second byte of the key", `
			72d54dfbf12ec44b362692df94137f32 8fea8da73990265ec1bbbea1ae9af0ca
			13b25aa26cb4a648cb9b9d1be65b2c09 24a66c54d545ec1b7374f4872e99f096`, keyed(1, 255, 2)},
		{"RFC 8439, A.1, 5: the last byte of the nonce", `
			c2c64d378cd536374ae204b9ef933fcd 1a8b2288b3dfa49672ab765b54ee27c7
			8a970e0e955c14f3a88e741b97c286f7 5f8fc299e8148362fa198a39531bed6d`, last},
		{"zeros, the greatest counter", `
			ace4cd09e294d1912d4ad205d06f95d9 c2f2bfcf453e8753f128765b62215f4d
			92c74f2f626c6a640c0b1284d839ec81 f1696281dafc3e684593937023b58b1d`, greatest},
		{"all ones", `
			d72b21cfa4b6b0c41d61f62b8a11159c 6a4f63bc56c2035796c7ad37811121bb
			ec56d54a530f3a933dd28a50feb23bfa f64f405be985f3718bdf4683e96be749`, ones()},
		{"ones, the counter 0", `
			d6e63495eafed7fc3bf8e7c419fa77be 8234a6a49df517ebab06c8f65d9f7a17
			d3a64d4b97c911e6995b65c79336220c b63b703e25d3d45f5fee90a37bbe0535`, first},
		{"all different", `
			3d8255da64115ab353089aaa3bb5000a 2fa7835d820c1203c45ca71a712ab0b6
			0b3e462ac0975811c5c4b483f97eca1c 2ed35405ebf9b43423c07e2de1c21ad6`, different()},
	} {
		if got := chacha.Block(x.in.key, x.in.counter, x.in.nonce); !bytes.Equal(got[:], unhex(x.want)) {
			t.Errorf("%s: the block is %x", x.name, got)
		}
	}
}

func TestBlockOfMany(t *testing.T) {
	for _, in := range inputs() {
		got := chacha.Block(in.key, in.counter, in.nonce)
		if want := modelBlock(in); !bytes.Equal(got[:], want) {
			t.Errorf("Block(%v) = %x, want %x", in, got, want)
		}
	}
}

// lengths are those at and beside the ends of blocks, and some between them.
func lengths() []int {
	return []int{0, 1, 2, 31, 63, 64, 65, 100, 127, 128, 129, 191, 192, 193, 1000, 4096, 4097}
}

func TestStream(t *testing.T) {
	for _, in := range inputs() {
		for _, n := range lengths() {
			if got, want := stream(in, n), modelStream(in, n); !bytes.Equal(got, want) {
				t.Errorf("Stream of %v and %d = %x, want %x", in, n, got, want)
			}
		}
	}
}

func TestStreamOfNoBytes(t *testing.T) {
	for _, n := range []int{0, -1, -2, -63, -64, -65, -api.MaxData, -api.MaxData - 1, math.MinInt32, math.MinInt + 1, math.MinInt} {
		for _, in := range []input{zeros(), ones(), different()} {
			if got := stream(in, n); len(got) != 0 {
				t.Errorf("Stream of %d has %d bytes", n, len(got))
			}
		}
	}
}

func TestStreamOfMaxData(t *testing.T) {
	// The counters of the second one go round in the midst.
	round := different()
	round.counter = top - 500
	for _, in := range []input{zeros(), round} {
		want := modelStream(in, api.MaxData)
		if len(want) != 1<<16 {
			t.Fatalf("the model's stream has %d bytes", len(want))
		}
		for _, n := range []int{api.MaxData - 65, api.MaxData - 64, api.MaxData - 63, api.MaxData - 1, api.MaxData} {
			if got := stream(in, n); !bytes.Equal(got, want[:n]) {
				t.Errorf("Stream of %v and %d is another one, of %d bytes", in, n, len(got))
			}
		}
		for _, n := range []int{api.MaxData + 1, api.MaxData + 64, 2 * api.MaxData, 1<<32 + 5, math.MaxInt - 63, math.MaxInt} {
			if got := stream(in, n); !bytes.Equal(got, want) {
				t.Errorf("Stream of %v and %d is another one, of %d bytes", in, n, len(got))
			}
		}
	}
}

// TestStreamGoesRound follows the counters behind the greatest one: the nonce
// stays as it is.
func TestStreamGoesRound(t *testing.T) {
	in := different()
	var want []byte
	for _, counter := range []uint32{top - 1, top, 0, 1} {
		block := chacha.Block(in.key, counter, in.nonce)
		want = append(want, block[:]...)
	}
	in.counter = top - 1
	for n := range 257 {
		if got := stream(in, n); !bytes.Equal(got, want[:n]) {
			t.Errorf("Stream of %d bytes from the counter before the greatest one = %x", n, got)
		}
	}
}

func TestStreamOfGreaterCounter(t *testing.T) {
	for _, in := range inputs() {
		whole := stream(in, 64*40)
		later := in
		for k := range 40 {
			for _, n := range []int{1, 63, 64, 65, 64 * (40 - k)} {
				n = min(n, len(whole)-64*k)
				if got := stream(later, n); !bytes.Equal(got, whole[64*k:64*k+n]) {
					t.Errorf("Stream of %v and %d, %d counters later, is another one", in, n, k)
				}
			}
			later.counter++
		}
	}
}

func TestXor(t *testing.T) {
	// RFC 8439, 2.4.2.
	in := standard("00000000 0000004a 00000000")
	plain := "Ladies and Gentlemen of the class of '99: If I could offer you only one tip for the future, sunscreen would be it."
	want := unhex(`
		6e2e359a2568f98041ba0728dd0d6981 e97e7aec1d4360c20a27afccfd9fae0b
		f91b65c5524733ab8f593dabcd62b357 1639d624e65152ab8f530c359f0861d8
		07ca0dbf500d6a6156a38e088a22b65e 52bc514d16ccf806818ce91ab7793736
		5af90bbf74a35be6b40b8eedf2785e42 874d`)
	for _, data := range [][][]byte{
		{[]byte(plain)},
		{[]byte(plain[:50]), []byte(plain[50:])},
		{nil, []byte(plain[:1]), {}, []byte(plain[1:64]), []byte(plain[64:]), nil},
	} {
		if got := xor(in, data...); !bytes.Equal(got, want) {
			t.Errorf("Xor of %q = %x", data, got)
		}
	}
	// Of bytes 0 there remains the stream, of the stream bytes 0.
	for _, n := range lengths() {
		if got := xor(in, make([]byte, n)); !bytes.Equal(got, stream(in, n)) {
			t.Errorf("Xor of %d bytes 0 = %x", n, got)
		}
		if got := xor(in, stream(in, n)); !bytes.Equal(got, make([]byte, n)) {
			t.Errorf("Xor of a stream of %d bytes = %x", n, got)
		}
	}
}

func TestXorOfMany(t *testing.T) {
	for _, in := range inputs() {
		for _, n := range lengths() {
			data := message(n)
			if got, want := xor(in, data), modelXor(in, data); !bytes.Equal(got, want) {
				t.Errorf("Xor of %v and %d bytes = %x, want %x", in, n, got, want)
			}
		}
	}
}

func TestXorOfNothing(t *testing.T) {
	for _, in := range []input{zeros(), ones(), different()} {
		for _, data := range [][][]byte{nil, {}, {nil}, {{}}, {nil, {}, nil}, {make([]byte, 0, 100)}} {
			if got := xor(in, data...); len(got) != 0 {
				t.Errorf("Xor of %v = %x", data, got)
			}
		}
	}
}

func TestXorOfParts(t *testing.T) {
	in := ones()
	data := message(300)
	want := modelXor(in, data)
	for i := range len(data) + 1 {
		if got := xor(in, data[:i], data[i:]); !bytes.Equal(got, want) {
			t.Errorf("Xor of parts of %d and %d bytes = %x", i, len(data)-i, got)
		}
		for j := i; j <= len(data); j += 7 {
			if got := xor(in, data[:i], nil, data[i:j], []byte{}, data[j:]); !bytes.Equal(got, want) {
				t.Errorf("Xor of parts of %d, %d and %d bytes = %x", i, j-i, len(data)-j, got)
			}
		}
	}
	for size := 1; size <= len(data); size++ {
		var parts [][]byte
		for rest := data; len(rest) > 0; {
			n := min(size, len(rest))
			parts, rest = append(parts, rest[:n]), rest[n:]
		}
		if got := xor(in, parts...); !bytes.Equal(got, want) {
			t.Errorf("Xor of parts of %d bytes each = %x", size, got)
		}
	}
	// One part may be handed in more than once.
	if got := xor(in, data[:70], data[:70], data[30:]); !bytes.Equal(got, modelXor(in, data[:70], data[:70], data[30:])) {
		t.Errorf("Xor of one part twice = %x", got)
	}
}

func TestXorOfMaxData(t *testing.T) {
	const most = api.MaxData
	in := different()
	in.counter = top - 3
	data := message(2*most + 5)
	whole := modelXor(in, data)
	if len(whole) != 1<<16 {
		t.Fatalf("the model's text has %d bytes", len(whole))
	}
	for i, parts := range [][][]byte{
		{data[:most-1]},
		{data[:most]},
		{data[:100], data[100:most]},
		{data[:most], nil, {}},
		{data[:most-1], data[most-1 : most]},
		// More than MaxData, in the midst of a part or between two.
		{data[:most+1]},
		{data},
		{data[:most], data[most : most+1]},
		{data[:most], data[most:]},
		{data[:most-1], data[most-1 : most+1]},
		{data[:most-1], data[most-1:]},
		{data[:100], data[100 : most+7], data[most+7:]},
		{data[:most+1], data[:most+1], data[:1]},
	} {
		n := min(len(bytes.Join(parts, nil)), most)
		if got := xor(in, parts...); !bytes.Equal(got, whole[:n]) {
			t.Errorf("%d: Xor is another text, of %d bytes", i, len(got))
		}
	}
	single := make([][]byte, most+3)
	for i := range single {
		single[i] = data[i : i+1]
	}
	if got := xor(in, single...); !bytes.Equal(got, whole) {
		t.Errorf("Xor of single bytes is another text, of %d bytes", len(got))
	}
}

func TestXorTwice(t *testing.T) {
	for _, in := range inputs() {
		for _, n := range lengths() {
			data := message(n)
			if got := xor(in, xor(in, data)); !bytes.Equal(got, data) {
				t.Errorf("Xor twice with %v of %d bytes = %x", in, n, got)
			}
			// The parts of the one text need not be those of the other.
			once := xor(in, data[:n/3], data[n/3:])
			if got := xor(in, once[:n/2], once[n/2:]); !bytes.Equal(got, data) {
				t.Errorf("Xor twice with %v of %d bytes in parts = %x", in, n, got)
			}
		}
	}
	for _, n := range []int{api.MaxData - 1, api.MaxData, api.MaxData + 1, 2 * api.MaxData} {
		data := message(n)
		if got := xor(ones(), xor(ones(), data)); !bytes.Equal(got, data[:min(n, api.MaxData)]) {
			t.Errorf("Xor twice of %d bytes is another text, of %d bytes", n, len(got))
		}
	}
}

// TestArgumentsStay hands in lists with room behind them, and looks whether the
// lists or what lies behind them have changed or have gone into the answer.
func TestArgumentsStay(t *testing.T) {
	in := different()
	for _, n := range []int{0, 1, 64, 65, 500, api.MaxData, api.MaxData + 9} {
		data := message(n + 200)
		before := bytes.Clone(data)
		got := xor(in, data[:n/2], data[n/2:n])
		if !bytes.Equal(data, before) {
			t.Errorf("Xor of %d bytes changes what it is given", n)
		}
		if !bytes.Equal(got, modelXor(in, before[:n])) {
			t.Errorf("Xor of %d bytes = %x", n, got)
		}
		held := bytes.Clone(got)
		clear(data)
		if !bytes.Equal(got, held) {
			t.Errorf("the answer of Xor of %d bytes changes with what it was given", n)
		}
		copy(data, before)
		clear(got)
		if !bytes.Equal(data, before) {
			t.Errorf("what Xor of %d bytes was given changes with its answer", n)
		}
	}
}

// TestListsOfPartsStay does so with the list of the parts itself.
func TestListsOfPartsStay(t *testing.T) {
	a, b := message(10), message(20)
	parts := [][]byte{a, nil, b, message(30)}
	xor(ones(), parts[:3]...)
	if len(parts[0]) != 10 || &parts[0][0] != &a[0] || parts[1] != nil || len(parts[2]) != 20 || &parts[2][0] != &b[0] || !bytes.Equal(parts[3], message(30)) {
		t.Error("Xor changes the list of its parts")
	}
}

// TestAnswersStandAlone asks twice: an answer does not hang on an earlier one, and
// behind its end lies nothing of the stream or of the data.
func TestAnswersStandAlone(t *testing.T) {
	for _, in := range []input{zeros(), ones(), different()} {
		for _, n := range append(lengths(), api.MaxData-1, api.MaxData+1) {
			data := message(n)
			for name, ask := range map[string]func() []byte{
				"Stream":               func() []byte { return stream(in, n) },
				"Xor":                  func() []byte { return xor(in, data) },
				"Xor of several parts": func() []byte { return xor(in, data[:n/3], data[n/3:n/2], data[n/2:]) },
			} {
				first := ask()
				want := bytes.Clone(first)
				for i, x := range first[:cap(first)][len(first):] {
					if x != 0 {
						t.Errorf("%s of %d bytes: behind its end, %d bytes on, lies %d", name, n, i, x)
						break
					}
				}
				clear(first[:cap(first)])
				stream(different(), 77)
				if again := ask(); !bytes.Equal(again, want) {
					t.Errorf("%s of %d bytes changes with an earlier answer", name, n)
				}
			}
		}
	}
}
