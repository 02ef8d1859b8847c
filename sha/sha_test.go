package sha_test

import (
	"bytes"
	"crypto/sha256"
	"encoding/hex"
	"math"
	"math/big"
	"reflect"
	"slices"
	"strings"
	"testing"

	"umbra/api"
	"umbra/sha"
)

const top = math.MaxUint32 // a number of which every bit is set

// draws returns a function that draws numbers, the same ones in every run.
func draws() func() uint32 {
	state := uint64(0x9e3779b97f4a7c15)
	return func() uint32 {
		state ^= state << 13
		state ^= state >> 7
		state ^= state << 17
		return uint32(state >> 16)
	}
}

// message returns n bytes that do not repeat soon.
func message(n int) []byte {
	draw := draws()
	b := make([]byte, n)
	for i := range b {
		b[i] = byte(draw() >> 5)
	}
	return b
}

// unhex returns the bytes that s writes in hexadecimal digits and spaces.
func unhex(s string) []byte {
	b, err := hex.DecodeString(strings.Join(strings.Fields(s), ""))
	if err != nil {
		panic(err)
	}
	return b
}

// edges are the lengths at which the padding goes over into another block, and
// those beside them.
func edges() []int {
	return []int{54, 55, 56, 57, 62, 63, 64, 65, 66, 118, 119, 120, 121, 127, 128, 129}
}

// lengths are the edges, and some others.
func lengths() []int {
	return append(edges(), 0, 1, 2, 3, 31, 32, 33, 100, 183, 184, 191, 192, 193, 500)
}

// The model finds its numbers from the roots of the primes. It counts in 64 bits,
// goes through a number bit by bit, and never moves a to h along: after round i
// they are the last four numbers of two lists.

const wrap = 1 << 32

func primes(n int) (l []int64) {
	for p := int64(2); len(l) < n; p++ {
		if !slices.ContainsFunc(l, func(d int64) bool { return p%d == 0 }) {
			l = append(l, p)
		}
	}
	return l
}

// modelRoot returns the first 32 bits of the fractional part of the root, of that
// degree, of p.
func modelRoot(p int64, degree uint) uint64 {
	// The root of p times 2 to the power of 32 degrees has 32 bits more.
	of := new(big.Int).Lsh(big.NewInt(p), 32*degree)
	root := new(big.Int)
	for bit := 40; bit >= 0; bit-- {
		root.SetBit(root, bit, 1)
		if new(big.Int).Exp(root, big.NewInt(int64(degree)), nil).Cmp(of) > 0 {
			root.SetBit(root, bit, 0)
		}
	}
	return root.Uint64() % wrap
}

// constants are the numbers that the chapter takes from the primes.
type constants struct {
	k       [64]uint64
	initial [8]uint32
}

func modelConstants() (c constants) {
	for i, p := range primes(64) {
		c.k[i] = modelRoot(p, 3)
	}
	for i, p := range primes(8) {
		c.initial[i] = uint32(modelRoot(p, 2))
	}
	return c
}

var model = modelConstants()

func modelRot(x uint64, by int) uint64 {
	for range by {
		x = x/2 + x%2*(wrap/2)
	}
	return x
}

// modelRots returns the sum, without carries, of x rotated by each of the numbers.
func modelRots(x uint64, by ...int) (sum uint64) {
	for _, n := range by {
		sum ^= modelRot(x, n)
	}
	return sum
}

// modelChoice takes each bit from yes, where that of x is set, or else from no.
func modelChoice(x, yes, no uint64) (y uint64) {
	for bit := uint64(1); bit < wrap; bit *= 2 {
		if x&bit != 0 {
			y += yes & bit
		} else {
			y += no & bit
		}
	}
	return y
}

// modelMajority sets each bit that most of the three have.
func modelMajority(a, b, c uint64) (y uint64) {
	for bit := uint64(1); bit < wrap; bit *= 2 {
		if a&bit+b&bit+c&bit >= 2*bit {
			y += bit
		}
	}
	return y
}

func (m constants) schedule(block [64]byte) (w []uint64) {
	for four := range slices.Chunk(block[:], 4) {
		w = append(w, new(big.Int).SetBytes(four).Uint64())
	}
	for i := 16; i < 64; i++ {
		s0 := modelRots(w[i-15], 7, 18) ^ w[i-15]/(1<<3)
		s1 := modelRots(w[i-2], 17, 19) ^ w[i-2]/(1<<10)
		w = append(w, (s1+w[i-7]+s0+w[i-16])%wrap)
	}
	return w
}

func (m constants) compress(h [8]uint32, block [64]byte) (sums [8]uint32) {
	var as, es []uint64
	for i := range 4 {
		as = append(as, uint64(h[3-i]))
		es = append(es, uint64(h[7-i]))
	}
	for i, w := range m.schedule(block) {
		t1 := es[i] + modelRots(es[i+3], 6, 11, 25) + modelChoice(es[i+3], es[i+2], es[i+1]) + m.k[i] + w
		t2 := modelRots(as[i+3], 2, 13, 22) + modelMajority(as[i+3], as[i+2], as[i+1])
		es = append(es, (as[i]+t1)%wrap)
		as = append(as, (t1+t2)%wrap)
	}
	for i := range 4 {
		sums[i] = uint32((uint64(h[i]) + as[67-i]) % wrap)
		sums[4+i] = uint32((uint64(h[4+i]) + es[67-i]) % wrap)
	}
	return sums
}

func (m constants) sum(msg []byte) (sum [32]byte) {
	h := m.initial
	for block := range slices.Chunk(append(bytes.Clone(msg), modelPad(len(msg))...), 64) {
		h = m.compress(h, [64]byte(block))
	}
	for i, x := range h {
		new(big.Int).SetUint64(uint64(x)).FillBytes(sum[4*i : 4*i+4])
	}
	return sum
}

func modelPad(n int) []byte {
	pad := []byte{128}
	for (int64(max(n, 0))%64+int64(len(pad))+8)%64 != 0 {
		pad = append(pad, 0)
	}
	bits := new(big.Int).Mul(big.NewInt(8), big.NewInt(int64(max(n, 0))))
	bits.Mod(bits, new(big.Int).Lsh(big.NewInt(1), 64))
	return append(pad, bits.FillBytes(make([]byte, 8))...)
}

// TestModel holds the numbers of the model against some of those that FIPS 180-4
// prints (4.2.2 and 5.3.3).
func TestModel(t *testing.T) {
	for i, want := range map[int]uint64{
		0: 0x428a2f98, 1: 0x71374491, 7: 0xab1c5ed5, 18: 0x0fc19dc6, 30: 0x06ca6351,
		31: 0x14292967, 32: 0x27b70a85, 47: 0x106aa070, 62: 0xbef9a3f7, 63: 0xc67178f2,
	} {
		if model.k[i] != want {
			t.Errorf("k[%d] of the model is %#x, want %#x", i, model.k[i], want)
		}
	}
	if want := [8]uint32{
		0x6a09e667, 0xbb67ae85, 0x3c6ef372, 0xa54ff53a, 0x510e527f, 0x9b05688c, 0x1f83d9ab, 0x5be0cd19,
	}; model.initial != want {
		t.Errorf("the initial value of the model is %#x", model.initial)
	}
	if l := primes(64); l[63] != 311 {
		t.Errorf("the primes of the model are %v", l)
	}
}

func TestPad(t *testing.T) {
	zeros := func(n int) string { return strings.Repeat("00", n) }
	for _, x := range []struct {
		n    int
		want string
	}{
		{0, "80" + zeros(55) + "0000000000000000"},
		{-1, "80" + zeros(55) + "0000000000000000"},
		{-8, "80" + zeros(55) + "0000000000000000"},
		{-64, "80" + zeros(55) + "0000000000000000"},
		{math.MinInt, "80" + zeros(55) + "0000000000000000"},
		{math.MinInt + 1, "80" + zeros(55) + "0000000000000000"},
		{1, "80" + zeros(54) + "0000000000000008"},
		{3, "80" + zeros(52) + "0000000000000018"},
		{31, "80" + zeros(24) + "00000000000000f8"},
		{32, "80" + zeros(23) + "0000000000000100"},
		{54, "80" + zeros(1) + "00000000000001b0"},
		{55, "80" + "00000000000001b8"},
		{56, "80" + zeros(63) + "00000000000001c0"},
		{63, "80" + zeros(56) + "00000000000001f8"},
		{64, "80" + zeros(55) + "0000000000000200"},
		{65, "80" + zeros(54) + "0000000000000208"},
		{119, "80" + "00000000000003b8"},
		{120, "80" + zeros(63) + "00000000000003c0"},
		// The bits of the length go over into one byte more each, and round at
		// 2 to the power of 61 bytes.
		{1<<13 - 1, "80" + zeros(56) + "000000000000fff8"},
		{1 << 13, "80" + zeros(55) + "0000000000010000"},
		{1<<29 - 1, "80" + zeros(56) + "00000000fffffff8"},
		{1 << 29, "80" + zeros(55) + "0000000100000000"},
		{1<<31 - 1, "80" + zeros(56) + "00000003fffffff8"},
		{1 << 31, "80" + zeros(55) + "0000000400000000"},
		{1 << 32, "80" + zeros(55) + "0000000800000000"},
		{1 << 53, "80" + zeros(55) + "0100000000000000"},
		{1<<61 - 1, "80" + zeros(56) + "fffffffffffffff8"},
		{1 << 61, "80" + zeros(55) + "0000000000000000"},
		{1<<61 + 55, "80" + "00000000000001b8"},
		{1<<62 + 1, "80" + zeros(54) + "0000000000000008"},
		{0x0123456789abcdef, "80" + zeros(8) + "091a2b3c4d5e6f78"},
		{math.MaxInt - 8, "80" + "ffffffffffffffb8"},
		{math.MaxInt - 7, "80" + zeros(63) + "ffffffffffffffc0"},
		{math.MaxInt - 1, "80" + zeros(57) + "fffffffffffffff0"},
		{math.MaxInt, "80" + zeros(56) + "fffffffffffffff8"},
	} {
		if got := sha.Pad(x.n); !bytes.Equal(got, unhex(x.want)) {
			t.Errorf("Pad(%d) = %x, want %s", x.n, got, x.want)
		}
	}
}

// checkPad compares Pad with the model, and looks for whole blocks and for no
// byte 0 more than these take.
func checkPad(t *testing.T, n int) {
	t.Helper()
	got := sha.Pad(n)
	if want := modelPad(n); !bytes.Equal(got, want) {
		t.Fatalf("Pad(%d) = %x, want %x", n, got, want)
	}
	if (max(n, 0)%64+len(got))%64 != 0 || len(got) < 9 || len(got) > 72 {
		t.Fatalf("Pad(%d) has %d bytes", n, len(got))
	}
}

func TestPadOfMany(t *testing.T) {
	for n := -200; n <= 2000; n++ {
		checkPad(t, n)
	}
	for bit := range 63 {
		for by := -130; by <= 130; by++ {
			checkPad(t, 1<<bit+by)
		}
	}
	for by := range 200 {
		checkPad(t, math.MaxInt-by)
		checkPad(t, math.MinInt+by)
	}
	draw := draws()
	for range 2000 {
		checkPad(t, int(uint64(draw())<<32|uint64(draw())))
	}
}

// full returns a value and a block of which every bit is set.
func full() (h [8]uint32, block [64]byte) {
	for i := range h {
		h[i] = top
	}
	for i := range block {
		block[i] = 255
	}
	return h, block
}

// different returns a value and a block of numbers and bytes that all differ.
func different() (h [8]uint32, block [64]byte) {
	for i := range h {
		h[i] = 0x01234567 + 0x11111111*uint32(i)
	}
	for i := range block {
		block[i] = byte(7*i + 129)
	}
	return h, block
}

func TestCompress(t *testing.T) {
	none, unset := [8]uint32{}, [64]byte{}
	ones, set := full()
	counted, other := different()
	first := model.initial
	for _, x := range []struct {
		name  string
		h     [8]uint32
		block [64]byte
		want  [8]uint32
	}{
		{"no bit", none, unset, [8]uint32{0x7ca51614, 0x425c3ba8, 0xce54dd2f, 0xc2020ae7, 0xb6e574d1, 0x98136d0f, 0xae7e26cc, 0xbf0be7a6}},
		{"every bit", ones, set, [8]uint32{0x0598127a, 0xaf11706e, 0x77401fff, 0xd730c549, 0x0b84c867, 0xa98c6ca3, 0xd7f3c0f9, 0x06a78b79}},
		{"no bit, and a block of all", none, set, [8]uint32{0x5081b30e, 0xfa9924a2, 0x8412d8aa, 0x28bb0c93, 0xda147a5a, 0xd8e1f92b, 0x5af1210d, 0x57081603}},
		{"every bit, and a block of none", ones, unset, [8]uint32{0x25260809, 0x56c94ba8, 0xe7d6dd48, 0x222df1d3, 0xf914c4b0, 0xb823beb6, 0xe8cebb7a, 0xddcdff59}},
		{"the initial value, and no bit", first, unset, [8]uint32{0xda5698be, 0x17b9b469, 0x62335799, 0x779fbeca, 0x8ce5d491, 0xc0d26243, 0xbafef9ea, 0x1837a9d8}},
		{"the initial value, and every bit", first, set, [8]uint32{0xef0c748d, 0xf4da50a8, 0xd6c43c01, 0x3edc3ce7, 0x6c9d9fa9, 0xa1458ade, 0x56eb86c0, 0xa64492d2}},
		{"no bit, and the first one", none, [64]byte{128}, [8]uint32{0x361ab632, 0x2fa9e7a7, 0xbb23818d, 0x839e01bd, 0xdafdf473, 0x05426edd, 0x297aedb9, 0xf6202bae}},
		{"no bit, and the last one", none, [64]byte{63: 1}, [8]uint32{0x403e453b, 0xbaf997a7, 0x5c4517b5, 0x88431c75, 0xbcf01208, 0xb378a4f4, 0xfbb13821, 0x7a9ca4a2}},
		{"the initial value, and the first bit", first, [64]byte{128}, [8]uint32{0xe3b0c442, 0x98fc1c14, 0x9afbf4c8, 0x996fb924, 0x27ae41e4, 0x649b934c, 0xa495991b, 0x7852b855}},
		{"the initial value, and the last bit", first, [64]byte{63: 1}, [8]uint32{0xb40f7ca6, 0x00e96935, 0x57a6a01a, 0x2a9288c2, 0x00d14c5e, 0x76329d4d, 0x0d069cae, 0x776a096d}},
		{"all different", counted, other, [8]uint32{0xd1ff57b8, 0xfe550362, 0x38696ee6, 0x15a7c6ae, 0x1fce5be0, 0xbf76df28, 0xf5a7d9ce, 0xf6770555}},
		// FIPS 180-4, the only block of abc.
		{"abc", first, [64]byte{'a', 'b', 'c', 128, 63: 24}, [8]uint32{0xba7816bf, 0x8f01cfea, 0x414140de, 0x5dae2223, 0xb00361a3, 0x96177a9c, 0xb410ff61, 0xf20015ad}},
	} {
		if got := sha.Compress(x.h, x.block); got != x.want {
			t.Errorf("%s: Compress(%#x, %x) = %#x, want %#x", x.name, x.h, x.block, got, x.want)
		}
	}
}

func checkCompress(t *testing.T, h [8]uint32, block [64]byte) {
	t.Helper()
	want := model.compress(h, block)
	if got := sha.Compress(h, block); got != want {
		t.Errorf("Compress(%#x, %x) = %#x, want %#x", h, block, got, want)
	}
}

// TestCompressOfOneBit changes each bit of the value and of the block, among bits
// that are all clear, all set, and mixed.
func TestCompressOfOneBit(t *testing.T) {
	check := func(h [8]uint32, block [64]byte) {
		seen := map[[8]uint32]bool{sha.Compress(h, block): true}
		checkCompress(t, h, block)
		for i := range 512 {
			changed := block
			changed[i/8] ^= 128 >> (i % 8)
			checkCompress(t, h, changed)
			seen[sha.Compress(h, changed)] = true
		}
		for i := range 256 {
			changed := h
			changed[i/32] ^= 1 << (i % 32)
			checkCompress(t, changed, block)
			seen[sha.Compress(changed, block)] = true
		}
		if len(seen) != 1+512+256 {
			t.Errorf("Compress of %#x, %x and one bit changed has only %d results", h, block, len(seen))
		}
	}
	check([8]uint32{}, [64]byte{})
	check(full())
	check(different())
	check(model.initial, [64]byte{'a', 'b', 'c', 128, 63: 24})
}

func TestCompressOfMany(t *testing.T) {
	draw := draws()
	some := []uint32{0, 1, 1 << 31, top - 1, top}
	for i := range 1000 {
		var h [8]uint32
		var block [64]byte
		for j := range h {
			h[j] = draw()
			if i%3 == 0 {
				h[j] = some[h[j]%5]
			}
		}
		for j := range block {
			block[j] = byte(draw() >> 9)
			if i%5 == 0 {
				block[j] = -(block[j] & 1)
			}
		}
		checkCompress(t, h, block)
	}
}

// TestNumbers changes each bit of each number k: Compress has the one that is the
// root's, and none beside it.
func TestNumbers(t *testing.T) {
	h, block := different()
	got := sha.Compress(h, block)
	if got != model.compress(h, block) {
		t.Errorf("Compress does not add the roots of the primes")
	}
	for i := range model.k {
		for bit := range 32 {
			other := model
			other.k[i] ^= 1 << bit
			if got == other.compress(h, block) {
				t.Errorf("Compress adds %#x in round %d, want %#x", other.k[i], i, model.k[i])
			}
		}
	}
}

// TestInitialNumbers does so with the numbers from which Sum begins.
func TestInitialNumbers(t *testing.T) {
	for _, msg := range [][]byte{nil, message(20)} {
		got := sha.Sum(msg)
		if got != model.sum(msg) {
			t.Errorf("Sum does not begin with the roots of the primes")
		}
		for i := range model.initial {
			for bit := range 32 {
				other := model
				other.initial[i] ^= 1 << bit
				if got == other.sum(msg) {
					t.Errorf("Sum begins with %#x as number %d, want %#x", other.initial[i], i, model.initial[i])
				}
			}
		}
	}
}

// vector is a message, made of a text that is repeated, and its sum.
type vector struct {
	text  string
	times int
	sum   string
}

// vectors are those that are published for FIPS 180-4 (the examples of the
// standard, and the additional ones of NIST).
func vectors() []vector {
	return []vector{
		{"", 1, "e3b0c442 98fc1c14 9afbf4c8 996fb924 27ae41e4 649b934c a495991b 7852b855"},
		{"abc", 1, "ba7816bf 8f01cfea 414140de 5dae2223 b00361a3 96177a9c b410ff61 f20015ad"},
		{"abcdbcdecdefdefgefghfghighijhijkijkljklmklmnlmnomnopnopq", 1,
			"248d6a61 d20638b8 e5c02693 0c3e6039 a33ce459 64ff2167 f6ecedd4 19db06c1"},
		{"abcdefghbcdefghicdefghijdefghijkefghijklfghijklmghijklmnhijklmnoijklmnopjklmnopqklmnopqrlmnopqrsmnopqrstnopqrstu", 1,
			"cf5b16a7 78af8380 036ce59e 7b049237 0b249b11 e8f07a51 afac4503 7afee9d1"},
		{"a", 1000000, "cdc76e5c 9914fb92 81a1c7e2 84d73e67 f1809a48 a497200e 046d39cc c7112cd0"},
		{"\xbd", 1, "68325720 aabd7c82 f30f554b 313d0570 c95accbb 7dc4b5aa e11204c0 8ffe732b"},
		{"\xc9\x8c\x8e\x55", 1, "7abc22c0 ae5af26c e93dbb94 433a0e0b 2e119d01 4f8e7f65 bd56c61c cccd9504"},
		{"\x00", 55, "02779466 cdec1638 11d07881 5c633f21 90141308 1449002f 24aa3e80 f0b88ef7"},
		{"\x00", 56, "d4817aa5 497628e7 c77e6b60 6107042b bba31308 88c5f47a 375e6179 be789fbb"},
		{"\x00", 57, "65a16cb7 861335d5 ace3c607 18b5052e 44660726 da4cd13b b745381b 235a1785"},
		{"\x00", 64, "f5a5fd42 d16a2030 2798ef6e d309979b 43003d23 20d9f0e8 ea9831a9 2759fb4b"},
		{"\x00", 1000, "541b3e9d aa09b20b f85fa273 e5cbd3e8 0185aa4e c298e765 db87742b 70138a53"},
		{"A", 1000, "c2e68682 3489ced2 017f6059 b8b23931 8b6364f6 dcd835d0 a519105a 1eadd6e4"},
		{"U", 1005, "f4d62dde c0f3dd90 ea1380fa 16a5ff8d c4c54b21 740650f2 4afc4120 903552b0"},
		{"\x00", 1000000, "d29751f2 649b32ff 572b5e0a 9f541ea6 60a50f94 ff0beedf b0b692b9 24cc8025"},
	}
}

// check compares a sum with the one that the message should have.
func check(t *testing.T, what string, got [32]byte, msg []byte) {
	t.Helper()
	if want := sha256.Sum256(msg); got != want {
		t.Errorf("%s of %d bytes = %x, want %x", what, len(msg), got, want)
	}
}

func TestSum(t *testing.T) {
	for _, x := range vectors() {
		msg := []byte(strings.Repeat(x.text, x.times))
		sum := sha.Sum(msg)
		if !bytes.Equal(sum[:], unhex(x.sum)) {
			t.Errorf("Sum of %d times %q = %x, want %s", x.times, x.text, sum, x.sum)
		}
		if got, want := sha.Hex(sum), strings.ReplaceAll(x.sum, " ", ""); got != want {
			t.Errorf("Hex of the sum of %d times %q is %s, want %s", x.times, x.text, got, want)
		}
		if got := sha.Sum(msg[:len(msg)/3], msg[len(msg)/3:]); got != sum {
			t.Errorf("Sum of two parts of %d times %q = %x", x.times, x.text, got)
		}
	}
}

func TestSumOfMany(t *testing.T) {
	msg := message(1000)
	for n := range msg {
		check(t, "Sum", sha.Sum(msg[:n]), msg[:n])
	}
	for _, n := range lengths() {
		for _, b := range [][]byte{msg[:n], make([]byte, n), bytes.Repeat([]byte{255}, n), bytes.Repeat([]byte{128}, n)} {
			check(t, "Sum", sha.Sum(b), b)
			if got, want := sha.Sum(b), model.sum(b); got != want {
				t.Errorf("Sum of %x = %x, want %x", b, got, want)
			}
		}
	}
}

// TestSumOfBlocks takes the chapter's words: all blocks of the message and its
// padding, through Compress.
func TestSumOfBlocks(t *testing.T) {
	for _, n := range lengths() {
		h := model.initial
		for block := range slices.Chunk(append(message(n), sha.Pad(n)...), 64) {
			h = sha.Compress(h, [64]byte(block))
		}
		var want []byte
		for _, x := range h {
			want = append(want, byte(x>>24), byte(x>>16), byte(x>>8), byte(x))
		}
		if got := sha.Sum(message(n)); !bytes.Equal(got[:], want) {
			t.Errorf("Sum of %d bytes = %x, want %x", n, got, want)
		}
	}
}

func TestSumOfNothing(t *testing.T) {
	for _, parts := range [][][]byte{nil, {}, {nil}, {{}}, {nil, {}, nil}, {make([]byte, 0, 100)}} {
		check(t, "Sum", sha.Sum(parts...), nil)
	}
	check(t, "Sum", sha.Sum(), nil)
}

func TestSumOfParts(t *testing.T) {
	for _, n := range edges() {
		msg := message(n)
		check(t, "Sum", sha.Sum(msg), msg)
		for i := range n + 1 {
			check(t, "Sum of two parts", sha.Sum(msg[:i], msg[i:]), msg)
			check(t, "Sum of empty parts too", sha.Sum(nil, msg[:i], []byte{}, nil, msg[i:], nil), msg)
			for j := i; j <= n; j += 3 {
				check(t, "Sum of three parts", sha.Sum(msg[:i], msg[i:j], msg[j:]), msg)
			}
		}
	}
	msg := message(300)
	for size := 1; size <= len(msg); size++ {
		check(t, "Sum of even parts", sha.Sum(slices.Collect(slices.Chunk(msg, size))...), msg)
	}
	// One part may be handed in more than once.
	check(t, "Sum of one part twice", sha.Sum(msg[:70], msg[:70], msg[30:]), slices.Concat(msg[:70], msg[:70], msg[30:]))
}

// TestSumOfMuch goes beyond MaxData, which is no limit here.
func TestSumOfMuch(t *testing.T) {
	const most = api.MaxData
	msg := message(4*most + 7)
	for _, n := range []int{most - 9, most - 8, most - 1, most, most + 1, 2*most - 1, 2 * most, 2*most + 1, len(msg)} {
		check(t, "Sum", sha.Sum(msg[:n]), msg[:n])
		check(t, "Sum of two parts", sha.Sum(msg[:n/2], msg[n/2:n]), msg[:n])
		check(t, "Sum of two parts", sha.Sum(msg[:n-1], msg[n-1:n]), msg[:n])
		h := sha.New()
		h.Write(msg[:n/3])
		h.Write(msg[n/3:n/3], msg[n/3:n])
		check(t, "Sum of a Hash", h.Sum(), msg[:n])
	}
	check(t, "Sum of single bytes", sha.Sum(slices.Collect(slices.Chunk(msg, 1))...), msg)
}

func TestHex(t *testing.T) {
	counted := func(from, step int) (sum [32]byte) {
		for i := range sum {
			sum[i] = byte(from + step*i)
		}
		return sum
	}
	for _, x := range []struct {
		sum  [32]byte
		want string
	}{
		{[32]byte{}, strings.Repeat("0", 64)},
		{counted(255, 0), strings.Repeat("f", 64)},
		// A leading digit 0, leading bytes 0, and digits 0 at the end.
		{[32]byte{0x01}, "01" + strings.Repeat("0", 62)},
		{[32]byte{0x10}, "10" + strings.Repeat("0", 62)},
		{[32]byte{31: 0x01}, strings.Repeat("0", 62) + "01"},
		{[32]byte{31: 0xf0}, strings.Repeat("0", 62) + "f0"},
		{[32]byte{2: 0x0a, 3: 0xb0}, "00000ab0" + strings.Repeat("0", 56)},
		// All sixteen digits, as the first and as the second one of a byte.
		{counted(0, 1), "000102030405060708090a0b0c0d0e0f101112131415161718191a1b1c1d1e1f"},
		{counted(0x0f, 0x0f), "0f1e2d3c4b5a69788796a5b4c3d2e1f0ff0e1d2c3b4a5968778695a4b3c2d1e0"},
		{[32]byte(unhex(strings.Repeat("0123456789abcdef fedcba9876543210", 2))), strings.Repeat("0123456789abcdeffedcba9876543210", 2)},
	} {
		if got := sha.Hex(x.sum); got != x.want {
			t.Errorf("Hex(%v) = %q, want %q", x.sum, got, x.want)
		}
	}
}

// TestHexOfEachByte gives each byte all values, among bytes 0 and among
// bytes 0x5a.
func TestHexOfEachByte(t *testing.T) {
	for at := range 32 {
		for x := range 256 {
			for _, others := range []byte{0, 0x5a} {
				sum := [32]byte(bytes.Repeat([]byte{others}, 32))
				sum[at] = byte(x)
				if got, want := sha.Hex(sum), hex.EncodeToString(sum[:]); got != want {
					t.Fatalf("Hex(%v) = %q, want %q", sum, got, want)
				}
			}
		}
	}
}

// checkHash asks a Hash twice for its sum: the first Sum changes nothing.
func checkHash(t *testing.T, h *sha.Hash, msg []byte) {
	t.Helper()
	check(t, "Sum of a Hash", h.Sum(), msg)
	check(t, "the second Sum of a Hash", h.Sum(), msg)
}

func TestHash(t *testing.T) {
	h := sha.New()
	checkHash(t, h, nil)
	h.Write([]byte("a"), nil, []byte("b"))
	checkHash(t, h, []byte("ab"))
	h.Write([]byte("c"))
	if got := sha.Hex(h.Sum()); got != "ba7816bf8f01cfea414140de5dae2223b00361a396177a9cb410ff61f20015ad" {
		t.Errorf("Sum of a Hash of abc = %s", got)
	}
	h.Write([]byte("dbcdecdefdefgefghfghighijhijkijkljklmklmnlmnomnopnopq"))
	if got := sha.Hex(h.Sum()); got != "248d6a61d20638b8e5c026930c3e6039a33ce45964ff2167f6ecedd419db06c1" {
		t.Errorf("Sum of a Hash of the longer example = %s", got)
	}
}

func TestHashOfVectors(t *testing.T) {
	for _, x := range vectors() {
		h := sha.New()
		for range x.times {
			h.Write([]byte(x.text))
		}
		if got := h.Sum(); !bytes.Equal(got[:], unhex(x.sum)) {
			t.Errorf("Sum of a Hash of %d times %q = %x, want %s", x.times, x.text, got, x.sum)
		}
	}
}

func TestHashOfNothing(t *testing.T) {
	for _, n := range lengths() {
		h := sha.New()
		h.Write()
		h.Write(nil)
		h.Write([][]byte{}...)
		checkHash(t, h, nil)
		h.Write(message(n))
		h.Write(nil, []byte{}, make([]byte, 0, 9))
		h.Write()
		checkHash(t, h, message(n))
		h.Write([]byte{7})
		h.Write([]byte{})
		checkHash(t, h, append(message(n), 7))
	}
}

// TestHashOfTwoParts writes every two parts of the messages at the edges, in two
// calls and in one, with and without a sum between them.
func TestHashOfTwoParts(t *testing.T) {
	for _, n := range edges() {
		msg := message(n)
		for i := range n + 1 {
			asked, calls, once := sha.New(), sha.New(), sha.New()
			asked.Write(msg[:i])
			checkHash(t, asked, msg[:i])
			asked.Write(msg[i:])
			checkHash(t, asked, msg)
			calls.Write(msg[:i])
			calls.Write(msg[i:])
			checkHash(t, calls, msg)
			once.Write(msg[:i], msg[i:])
			checkHash(t, once, msg)
		}
	}
}

// TestHashOfParts writes a message in parts of each size, in a call each and all
// in one call.
func TestHashOfParts(t *testing.T) {
	msg := message(300)
	for size := 1; size <= len(msg); size++ {
		calls, asked, once := sha.New(), sha.New(), sha.New()
		n := 0
		for part := range slices.Chunk(msg, size) {
			calls.Write(part)
			asked.Write(part)
			n += len(part)
			checkHash(t, asked, msg[:n])
		}
		once.Write(slices.Collect(slices.Chunk(msg, size))...)
		checkHash(t, calls, msg)
		checkHash(t, once, msg)
	}
}

// TestHashOfMany writes drawn parts in drawn calls, and asks for the sum in
// between.
func TestHashOfMany(t *testing.T) {
	draw := draws()
	for range 50 {
		h := sha.New()
		var all []byte
		for range 30 {
			parts := make([][]byte, draw()%4)
			for i := range parts {
				parts[i] = message(int(draw() % 200))
				all = append(all, parts[i]...)
			}
			h.Write(parts...)
			if draw()%3 > 0 {
				checkHash(t, h, all)
			}
		}
		checkHash(t, h, all)
		if got := sha.Sum(all); got != h.Sum() {
			t.Errorf("Sum of what was written is %x, but that of the Hash is %x", got, h.Sum())
		}
	}
}

func TestHashOfNobody(t *testing.T) {
	var none *sha.Hash
	var zero sha.Hash
	twin, emptied := zero, sha.New()
	emptied.Write(message(100))
	*emptied = zero
	for name, h := range map[string]*sha.Hash{
		"a nil Hash": none, "a Hash that New did not make": {}, "a new Hash": new(sha.Hash), "a variable": &zero,
		"a copy of one": &twin, "one that was emptied": emptied,
	} {
		if got := h.Sum(); got != [32]byte{} {
			t.Errorf("Sum of %s = %x", name, got)
		}
		h.Write()
		h.Write(nil)
		h.Write(message(40), nil, message(7))
		h.Write(message(64))
		h.Write(message(1000))
		h.Write([]byte("abc"))
		for range 2 {
			if got := h.Sum(); got != [32]byte{} {
				t.Errorf("Sum of %s with data = %x", name, got)
			}
		}
		if h != nil && !reflect.DeepEqual(*h, sha.Hash{}) {
			t.Errorf("%s has changed to %v", name, *h)
		}
	}
}

// TestHashesStandAlone writes to several in turn.
func TestHashesStandAlone(t *testing.T) {
	msg := message(500)
	a, b, c := sha.New(), sha.New(), sha.New()
	a.Write(msg[:30])
	b.Write(msg[100:200])
	c.Write(msg[:30])
	a.Write(msg[30:133])
	sha.Sum(msg[:77])
	checkHash(t, b, msg[100:200])
	checkHash(t, a, msg[:133])
	checkHash(t, c, msg[:30])
	checkHash(t, sha.New(), nil)
}

// TestCopiesOfAHash writes to a Hash and to a copy of it, in turn: each has the
// data before the copy and its own.
func TestCopiesOfAHash(t *testing.T) {
	msg := message(500)
	for n := range 200 {
		h := sha.New()
		h.Write(slices.Collect(slices.Chunk(msg[:n], 5))...)
		twin := *h
		still := *h
		h.Write(msg[200:203])
		twin.Write(msg[300:304])
		h.Write(msg[203:280])
		checkHash(t, h, slices.Concat(msg[:n], msg[200:280]))
		checkHash(t, &twin, slices.Concat(msg[:n], msg[300:304]))
		twin.Write(msg[304:400])
		checkHash(t, &twin, slices.Concat(msg[:n], msg[300:400]))
		checkHash(t, &still, msg[:n])
		checkHash(t, h, slices.Concat(msg[:n], msg[200:280]))
		// What is put in the place of a Hash goes on with its own data.
		*h = still
		h.Write(msg[400:])
		checkHash(t, h, slices.Concat(msg[:n], msg[400:]))
		checkHash(t, &still, msg[:n])
	}
}

// TestHashOfItsSum writes a sum to the Hash that told it.
func TestHashOfItsSum(t *testing.T) {
	h := sha.New()
	h.Write(message(50))
	sum := h.Sum()
	h.Write(sum[:], sum[:])
	want := slices.Concat(message(50), sum[:], sum[:])
	clear(sum[:])
	checkHash(t, h, want)
}

// TestArgumentsStay hands in lists with room behind them, and looks whether the
// lists or what lies behind them have changed, or change an answer later.
func TestArgumentsStay(t *testing.T) {
	for _, n := range append(lengths(), api.MaxData+9) {
		data := message(n + 200)
		before := bytes.Clone(data)
		h := sha.New()
		sum := sha.Sum(data[:n/2], data[n/2:n])
		h.Write(data[:n/3])
		h.Write(data[n/3:n/2], data[n/2:n])
		h.Sum()
		if !bytes.Equal(data, before) {
			t.Errorf("a call changes the %d bytes that it is given", n)
		}
		check(t, "Sum", sum, before[:n])
		clear(data)
		checkHash(t, h, before[:n])
		h.Write(before[n:])
		checkHash(t, h, before)
	}
}

// TestListsOfPartsStay does so with the list of the parts itself.
func TestListsOfPartsStay(t *testing.T) {
	a, b, more := message(10), message(80), message(30)
	parts := [][]byte{a, nil, b, more}
	h := sha.New()
	h.Write(parts[:3]...)
	sha.Sum(parts[:3]...)
	if len(parts[0]) != 10 || &parts[0][0] != &a[0] || parts[1] != nil || len(parts[2]) != 80 || &parts[2][0] != &b[0] ||
		len(parts[3]) != 30 || &parts[3][0] != &more[0] {
		t.Error("a call changes the list of its parts")
	}
	parts[0], parts[2] = more, nil
	checkHash(t, h, slices.Concat(a, b))
}

// TestValuesStay looks whether the calls that are given arrays change the arrays.
func TestValuesStay(t *testing.T) {
	h, block := different()
	wantH, wantBlock := different()
	sha.Compress(h, block)
	if h != wantH || block != wantBlock {
		t.Error("Compress changes what it is given")
	}
	sum := sha.Sum(nil)
	want := sum
	sha.Hex(sum)
	if sum != want {
		t.Error("Hex changes what it is given")
	}
}

// TestAnswersStandAlone asks twice: an answer does not hang on an earlier one, and
// behind the padding lies nothing.
func TestAnswersStandAlone(t *testing.T) {
	for _, n := range append(lengths(), -1, math.MaxInt) {
		first := sha.Pad(n)
		for i, x := range first[:cap(first)][len(first):] {
			if x != 0 {
				t.Errorf("Pad(%d): behind its end, %d bytes on, lies %d", n, i, x)
			}
		}
		for i := range first[:cap(first)] {
			first[:cap(first)][i] = 0xee
		}
		if again := sha.Pad(n); !bytes.Equal(again, modelPad(n)) {
			t.Errorf("Pad(%d) changes with an earlier answer", n)
		}
		data := message(max(min(n, 500), 0))
		check(t, "Sum", sha.Sum(data), data)
	}
	h, block := different()
	one, two := sha.Compress(h, block), sha.Compress(h, block)
	if one != two {
		t.Errorf("the second Compress is %#x, the first one %#x", two, one)
	}
}
