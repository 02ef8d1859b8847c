package poly_test

import (
	"bytes"
	"encoding/hex"
	"math/big"
	"slices"
	"strings"
	"testing"

	"umbra/api"
	"umbra/poly"
)

// ones are bytes of which every bit is set.
var ones = bytes.Repeat([]byte{255}, 64)

// unhex returns the bytes that s writes in hexadecimal digits and spaces.
func unhex(s string) []byte {
	b, err := hex.DecodeString(strings.Join(strings.Fields(s), ""))
	if err != nil {
		panic(err)
	}
	return b
}

// half returns the 16 bytes that s writes; behind the digits come bytes 0.
func half(s string) (h [16]byte) {
	copy(h[:], unhex(s))
	return h
}

// keyOf returns the key of r and s.
func keyOf(r, s string) (key [32]byte) {
	copy(key[:16], unhex(r))
	copy(key[16:], unhex(s))
	return key
}

// The keys at the edges: all zeros; a factor of 1 and of 2; the greatest factor
// that Clamp leaves, given by itself and by bits that Clamp takes away; and bytes
// that all differ.
var (
	zeroKey     = [32]byte{}
	oneKey      = keyOf("01", "")
	twoKey      = keyOf("02", "")
	greatestKey = keyOf("ffffff0f fcffff0f fcffff0f fcffff0f", "")
	onesKey     = keyOf("ffffffff ffffffff ffffffff ffffffff", "ffffffff ffffffff ffffffff ffffffff")
	otherKey    = keyOf("81888f96 9da4abb2 b9c0c7ce d5dce3ea", "f1f8ff06 0d141b22 29303740 4a51585f")
)

// keys returns the keys at the edges, each with all ones behind its factor too,
// and some that are drawn.
func keys() [][32]byte {
	l := [][32]byte{zeroKey, oneKey, twoKey, greatestKey, onesKey, otherKey}
	for _, key := range l {
		copy(key[16:], ones)
		l = append(l, key)
	}
	draw := draws()
	for range 20 {
		var key [32]byte
		for i := range key {
			key[i] = byte(draw())
		}
		l = append(l, key)
	}
	return l
}

// draws returns a function that draws numbers, the same ones in every run.
func draws() func() uint32 {
	state := uint64(0x9e3779b97f4a7c15)
	return func() uint32 {
		state ^= state << 13
		state ^= state >> 7
		state ^= state << 17
		return uint32(state >> 16)
	}
}

// message returns n bytes that do not repeat soon.
func message(n int) []byte {
	draw := draws()
	b := make([]byte, n)
	for i := range b {
		b[i] = byte(draw() >> 5)
	}
	return b
}

// lengths are those at and beside the ends of blocks, and some between them.
func lengths() []int {
	return []int{0, 1, 2, 7, 8, 9, 14, 15, 16, 17, 18, 31, 32, 33, 47, 48, 49, 100, 255, 256, 257, 1000}
}

// The model counts in numbers without bounds, and never sees blocks: a piece of
// n bytes is its own number and 256 to the power of n.

var (
	unit  = big.NewInt(1)
	prime = new(big.Int).Sub(power(130), big.NewInt(5))
)

func power(n uint) *big.Int { return new(big.Int).Lsh(unit, n) }

func modelNumber(b []byte) *big.Int {
	turned := slices.Clone(b)
	slices.Reverse(turned)
	return new(big.Int).SetBytes(turned)
}

// modelBytes returns the lowest n bytes of x.
func modelBytes(x *big.Int, n int) []byte {
	b := new(big.Int).Mod(x, power(uint(8*n))).FillBytes(make([]byte, n))
	slices.Reverse(b)
	return b
}

func modelFactor(key [32]byte) *big.Int {
	kept, _ := new(big.Int).SetString("0ffffffc0ffffffc0ffffffc0fffffff", 16)
	return kept.And(kept, modelNumber(key[:16]))
}

// modelSum returns the accumulator that a message leaves.
func modelSum(key [32]byte, msg []byte) *big.Int {
	r, sum := modelFactor(key), new(big.Int)
	for piece := range slices.Chunk(msg[:min(len(msg), 65536)], 16) {
		sum.Add(sum, modelNumber(piece))
		sum.Add(sum, power(uint(8*len(piece))))
		sum.Mod(sum.Mul(sum, r), prime)
	}
	return sum
}

func modelTag(key [32]byte, msg ...[]byte) [16]byte {
	sum := modelSum(key, bytes.Join(msg, nil))
	return [16]byte(modelBytes(sum.Add(sum, modelNumber(key[16:])), 16))
}

func TestClamp(t *testing.T) {
	for _, x := range []struct{ r, want string }{
		{"00000000 00000000 00000000 00000000", "00000000 00000000 00000000 00000000"},
		{"ffffffff ffffffff ffffffff ffffffff", "ffffff0f fcffff0f fcffff0f fcffff0f"},
		{"000000f0 030000f0 030000f0 030000f0", "00000000 00000000 00000000 00000000"},
		{"03030303 03030303 03030303 03030303", "03030303 00030303 00030303 00030303"},
		{"f0f0f0f0 f0f0f0f0 f0f0f0f0 f0f0f0f0", "f0f0f000 f0f0f000 f0f0f000 f0f0f000"},
		{"01234567 89abcdef fedcba98 76543210", "01234507 88abcd0f fcdcba08 74543200"},
		// RFC 8439, 2.5.2.
		{"85d6be78 57556d33 7f4452fe 42d506a8", "85d6be08 54556d03 7c44520e 40d50608"},
	} {
		if got := poly.Clamp(half(x.r)); got != half(x.want) {
			t.Errorf("Clamp(%s) = %x, want %s", x.r, got, x.want)
		}
	}
}

// TestClampOfEachByte gives each byte all values, among bytes 0 and among
// bytes 255.
func TestClampOfEachByte(t *testing.T) {
	mask := half("ffffff0f fcffff0f fcffff0f fcffff0f")
	for at := range mask {
		for x := range 256 {
			for _, others := range []byte{0, 255} {
				r, want := [16]byte{}, mask
				for i := range r {
					r[i] = others
				}
				r[at] = byte(x)
				for i := range want {
					want[i] &= r[i]
				}
				if got := poly.Clamp(r); got != want {
					t.Fatalf("Clamp(%x) = %x, want %x", r, got, want)
				}
				if got := poly.Clamp(want); got != want {
					t.Fatalf("Clamp(%x) = %x, but nothing is to be taken from it", want, got)
				}
			}
		}
	}
}

func TestBlocks(t *testing.T) {
	const first, second = "000102030405060708090a0b0c0d0e0f", "101112131415161718191a1b1c1d1e1f"
	for n, want := range map[int][]string{
		0:  nil,
		1:  {"0001 000000000000000000000000000000"},
		2:  {"000101 0000000000000000000000000000"},
		15: {"000102030405060708090a0b0c0d0e 01 00"},
		16: {first + "01"},
		17: {first + "01", "1001 000000000000000000000000000000"},
		31: {first + "01", "101112131415161718191a1b1c1d1e 01 00"},
		32: {first + "01", second + "01"},
		33: {first + "01", second + "01", "2001 000000000000000000000000000000"},
	} {
		msg := make([]byte, n)
		for i := range msg {
			msg[i] = byte(i)
		}
		got := poly.Blocks(msg)
		if len(got) != len(want) {
			t.Errorf("%d bytes have %d blocks, want %d", n, len(got), len(want))
			continue
		}
		for i := range got {
			if !bytes.Equal(got[i][:], unhex(want[i])) {
				t.Errorf("%d bytes: the block %d is %x, want %s", n, i, got[i], want[i])
			}
		}
	}
	for _, msg := range [][]byte{nil, {}, make([]byte, 0, 40)} {
		if got := poly.Blocks(msg); len(got) != 0 {
			t.Errorf("an empty message has the blocks %x", got)
		}
	}
}

// checkBlocks compares the number of each block with that of the piece of the
// message, cut at MaxData, to which it belongs.
func checkBlocks(t *testing.T, msg []byte) {
	t.Helper()
	got := poly.Blocks(msg)
	i := 0
	for piece := range slices.Chunk(msg[:min(len(msg), 65536)], 16) {
		want := modelNumber(piece)
		want.Add(want, power(uint(8*len(piece))))
		if i >= len(got) || modelNumber(got[i][:]).Cmp(want) != 0 {
			t.Fatalf("%d bytes: the block %d is not %x", len(msg), i, modelBytes(want, 17))
		}
		i++
	}
	if len(got) != i {
		t.Errorf("%d bytes have %d blocks, want %d", len(msg), len(got), i)
	}
}

func TestBlocksOfMany(t *testing.T) {
	for n := range 300 {
		checkBlocks(t, message(n))
		checkBlocks(t, make([]byte, n))
		checkBlocks(t, bytes.Repeat([]byte{1}, n))
		checkBlocks(t, bytes.Repeat([]byte{255}, n))
	}
}

func TestBlocksOfMaxData(t *testing.T) {
	const most = api.MaxData
	msg := message(2*most + 5)
	for n, want := range map[int]int{
		most - 17: 4095, most - 16: 4095, most - 15: 4096, most - 1: 4096, most: 4096,
		most + 1: 4096, most + 15: 4096, most + 16: 4096, most + 17: 4096, 2 * most: 4096, 2*most + 5: 4096,
	} {
		if got := poly.Blocks(msg[:n]); len(got) != want {
			t.Errorf("%d bytes have %d blocks, want %d", n, len(got), want)
		}
		checkBlocks(t, msg[:n])
	}
}

// unblock returns the message of the blocks, if they are of one: the last byte
// of each that is not 0 is the mark.
func unblock(blocks [][17]byte) []byte {
	var msg []byte
	for _, b := range blocks {
		end := 16
		for end > 0 && b[end] == 0 {
			end--
		}
		msg = append(msg, b[:end]...)
	}
	return msg
}

// TestBlocksTellTheMessage finds the message again from its blocks alone: no two
// messages have the same.
func TestBlocksTellTheMessage(t *testing.T) {
	check := func(msg []byte) {
		t.Helper()
		if got := unblock(poly.Blocks(msg)); !bytes.Equal(got, msg) {
			t.Errorf("the blocks of %x are those of %x", msg, got)
		}
	}
	for n := range 100 {
		for _, end := range [][]byte{nil, {0}, {1}, {255}, {1, 0}, {0, 1}, {0, 0, 0}, make([]byte, 16), {1, 15: 0}} {
			for _, begin := range [][]byte{make([]byte, n), message(n), bytes.Repeat([]byte{1}, n), bytes.Repeat([]byte{255}, n)} {
				check(append(begin, end...))
			}
		}
	}
	check(message(api.MaxData))
	check(make([]byte, api.MaxData))
}

// TestShortMessagesDiffer goes through all messages of at most two bytes, alone
// and behind a whole block: their polynomials have one block or two.
func TestShortMessagesDiffer(t *testing.T) {
	for _, begin := range [][]byte{nil, make([]byte, 16)} {
		seen := map[[17]byte]bool{}
		for n := range 1 << 16 {
			for _, end := range [][]byte{{byte(n)}, {byte(n), byte(n >> 8)}} {
				if len(end) == 1 && n > 255 {
					continue
				}
				blocks := poly.Blocks(append(slices.Clone(begin), end...))
				last := blocks[len(blocks)-1]
				if len(blocks) != 1+len(begin)/16 || seen[last] {
					t.Fatalf("%x behind %d bytes has the blocks of another message, %x", end, len(begin), blocks)
				}
				seen[last] = true
			}
		}
	}
}

const (
	ietf = "Any submission to the IETF intended by the Contributor for publication as all or part of an IETF Internet-Draft or RFC and any statement made within the context of an IETF activity is considered an \"IETF Contribution\". Such statements include oral statements in IETF sessions, as well as written and electronic communications made at any time or place, which are addressed to"
	wabe = "'Twas brillig, and the slithy toves\nDid gyre and gimble in the wabe:\nAll mimsy were the borogoves,\nAnd the mome raths outgrabe."
)

func TestTag(t *testing.T) {
	const (
		sixteen = "ffffffffffffffffffffffffffffffff"
		r       = "36e5f6b5c5e06070f0efca96227a863e"
		small   = "0100000000000000 0400000000000000"
		long    = "e33594d7505e43b90000000000000000 3394d7505e4379cd0100000000000000 00000000000000000000000000000000"
	)
	for _, x := range []struct {
		name string
		key  [32]byte
		msg  []byte
		want string
	}{
		{"RFC 8439, 2.5.2", keyOf("85d6be7857556d337f4452fe42d506a8", "0103808afb0db2fd4abff6af4149f51b"), []byte("Cryptographic Forum Research Group"), "a8061dc1305136c6c22b8baf0c0127a9"},
		{"RFC 8439, A.3, 1: all zeros", zeroKey, make([]byte, 64), ""},
		{"RFC 8439, A.3, 2: the factor 0", keyOf("", r), []byte(ietf), r},
		{"RFC 8439, A.3, 3: the summand 0", keyOf(r, ""), []byte(ietf), "f3477e7cd95417af89a6b8794c310cf0"},
		{"RFC 8439, A.3, 4", keyOf("1c9240a5eb55d38af333888604f6b5f0", "473917c1402b80099dca5cbc207075c0"), []byte(wabe), "4541669a7eaaee61e708dc7cbcc5eb62"},
		{"RFC 8439, A.3, 5: a product above 2^130", twoKey, unhex(sixteen), "03"},
		{"RFC 8439, A.3, 6: a sum above 16 bytes", keyOf("02", sixteen), unhex("02000000000000000000000000000000"), "03"},
		{"RFC 8439, A.3, 7", oneKey, unhex(sixteen + "f0ffffffffffffffffffffffffffffff 11000000000000000000000000000000"), "05"},
		{"RFC 8439, A.3, 8: P itself", oneKey, unhex(sixteen + "fbfefefefefefefefefefefefefefefe 01010101010101010101010101010101"), ""},
		{"RFC 8439, A.3, 9: P - 1", twoKey, unhex("fdffffffffffffffffffffffffffffff"), "faffffffffffffffffffffffffffffff"},
		{"RFC 8439, A.3, 10", keyOf(small, ""), unhex(long + "01000000000000000000000000000000"), "14000000000000005500000000000000"},
		{"RFC 8439, A.3, 11", keyOf(small, ""), unhex(long), "13"},
		{"ones, no bytes", onesKey, nil, sixteen},
		{"ones, 1 byte", onesKey, ones[:1], "23feffef23f8ffef23f8ffef23f8ffef"},
		{"ones, 15 bytes", onesKey, ones[:15], "fbff27e6030028e6030028e6030028ee"},
		{"ones, 16 bytes", onesKey, ones[:16], "fbffff17faffff17faffff17faffff17"},
		{"ones, 17 bytes", onesKey, ones[:17], "7cfe7ff768f81f2763f8bf565df85f86"},
		{"ones, 33 bytes", onesKey, ones[:33], "86fa6a437bf4ec24a274504dc37495bc"},
		{"ones, 64 bytes", onesKey, ones[:64], "900fe32bc15fa8d7bca8efe4c7e37eb1"},
	} {
		if got := poly.Tag(x.key, x.msg); got != half(x.want) {
			t.Errorf("%s: the tag is %x, want %s", x.name, got, x.want)
		}
		if got := modelTag(x.key, x.msg); got != half(x.want) {
			t.Errorf("%s: the model's tag is %x", x.name, got)
		}
	}
}

// checkTag compares the tag of the parts with the model's.
func checkTag(t *testing.T, key [32]byte, msg ...[]byte) {
	t.Helper()
	if got, want := poly.Tag(key, msg...), modelTag(key, msg...); got != want {
		t.Errorf("Tag of %x and %d parts, the first bytes being %.64x, is %x, want %x", key, len(msg), bytes.Join(msg, nil), got, want)
	}
}

func TestTagOfMany(t *testing.T) {
	for _, key := range keys() {
		for _, n := range lengths() {
			checkTag(t, key, message(n))
			checkTag(t, key, make([]byte, n))
			checkTag(t, key, bytes.Repeat([]byte{255}, n))
		}
	}
}

// TestTagOfOneBit looks for every bit of the key and of a message of two blocks
// and a half.
func TestTagOfOneBit(t *testing.T) {
	msg := message(40)
	for i := range 256 {
		key := zeroKey
		key[i/8] = 1 << (i % 8)
		checkTag(t, key, msg)
		key = onesKey
		key[i/8] ^= 1 << (i % 8)
		checkTag(t, key, msg)
	}
	for i := range 8 * len(msg) {
		msg[i/8] ^= 1 << (i % 8)
		for _, key := range [][32]byte{oneKey, greatestKey, otherKey} {
			checkTag(t, key, msg)
		}
		msg[i/8] ^= 1 << (i % 8)
	}
}

func TestTagOfFactorZero(t *testing.T) {
	// The second one is 0 only as Clamp leaves it.
	for _, r := range []string{"", "000000f0 030000f0 030000f0 030000f0"} {
		for _, s := range []string{"", "01", "36e5f6b5c5e06070f0efca96227a863e", "ffffffffffffffffffffffffffffffff"} {
			for _, n := range lengths() {
				for _, msg := range [][]byte{message(n), make([]byte, n), bytes.Repeat([]byte{255}, n)} {
					if got := poly.Tag(keyOf(r, s), msg); got != half(s) {
						t.Errorf("Tag of the factor %q, %q and %d bytes = %x", r, s, n, got)
					}
				}
			}
		}
	}
}

// whole returns the 16 bytes of a block with the number x, if there is one.
func whole(x *big.Int) (block []byte, ok bool) {
	x = new(big.Int).Sub(x, power(128))
	if x.Sign() < 0 || x.Cmp(power(128)) >= 0 {
		return nil, false
	}
	return modelBytes(x, 16), true
}

// summing returns blocks whose sum, before it is multiplied for the last time, is
// one of the totals.
func summing(key [32]byte, totals ...*big.Int) []byte {
	draw := draws()
	for {
		// With a small factor, no fixed number of blocks comes everywhere.
		msg := make([]byte, 16*(1+draw()%3))
		for i := range msg {
			msg[i] = byte(draw())
		}
		for _, total := range totals {
			if last, ok := whole(new(big.Int).Sub(total, modelSum(key, msg))); ok {
				return append(msg, last...)
			}
		}
	}
}

// reaching returns blocks that leave the accumulator sum, which is less than P.
func reaching(key [32]byte, sum *big.Int) []byte {
	x := new(big.Int).ModInverse(modelFactor(key), prime)
	x.Mod(x.Mul(x, sum), prime)
	return summing(key, x, new(big.Int).Add(x, prime))
}

// factors are keys whose factors are not 0.
func factors() [][32]byte {
	return [][32]byte{oneKey, twoKey, keyOf("05", ""), greatestKey, onesKey, otherKey, keyOf("85d6be7857556d337f4452fe42d506a8", "0103808afb0db2fd4abff6af4149f51b")}
}

// TestTagReaches leaves accumulators at and beside the places where a number of
// 64 or of 128 bits ends, and at both ends of what is less than P.
func TestTagReaches(t *testing.T) {
	var sums []*big.Int
	for d := range int64(8) {
		sums = append(sums, big.NewInt(d), new(big.Int).Sub(prime, big.NewInt(d+1)))
		for _, n := range []uint{64, 128, 129} {
			sums = append(sums, new(big.Int).Add(power(n), big.NewInt(d)), new(big.Int).Sub(power(n), big.NewInt(d+1)))
		}
	}
	for _, key := range factors() {
		for _, sum := range sums {
			msg := reaching(key, sum)
			if got := modelSum(key, msg); got.Cmp(sum) != 0 {
				t.Fatalf("the message leaves %x, not %x", got, sum)
			}
			want := new(big.Int).Add(sum, modelNumber(key[16:]))
			if got := poly.Tag(key, msg); !bytes.Equal(got[:], modelBytes(want, 16)) {
				t.Errorf("Tag of %x and %x = %x, want that of %x", key, msg, got, sum)
			}
			checkTag(t, key, msg, []byte{0})
			checkTag(t, key, msg, message(40))
			checkTag(t, key, msg, ones)
		}
	}
}

// TestTagOfSumsAtP adds up blocks to P and to numbers beside it, before they are
// multiplied.
func TestTagOfSumsAtP(t *testing.T) {
	for d := int64(-6); d <= 6; d++ {
		total := new(big.Int).Add(prime, big.NewInt(d))
		for _, key := range factors() {
			msg := summing(key, total)
			checkTag(t, key, msg)
			checkTag(t, key, msg, message(33))
			sum := new(big.Int).Mod(new(big.Int).Mul(big.NewInt(d), modelFactor(key)), prime)
			if got := modelSum(key, msg); got.Cmp(sum) != 0 {
				t.Fatalf("the message leaves %x, not %x", got, sum)
			}
		}
	}
	// With the factor 1, three blocks make P - 1, P, P + 1 and P + 4.
	for _, x := range []struct{ third, want string }{
		{"faffffffffffffffffffffffffffffff", "faffffffffffffffffffffffffffffff"},
		{"fbffffffffffffffffffffffffffffff", "00"},
		{"fcffffffffffffffffffffffffffffff", "01"},
		{"ffffffffffffffffffffffffffffffff", "04"},
	} {
		if got := poly.Tag(oneKey, make([]byte, 32), unhex(x.third)); got != half(x.want) {
			t.Errorf("Tag of the factor 1, 32 bytes 0 and %s = %x, want %s", x.third, got, x.want)
		}
	}
}

// TestTagOfGreatestSums multiplies the greatest sums that there are, by the
// greatest factor.
func TestTagOfGreatestSums(t *testing.T) {
	for d := range int64(4) {
		msg := reaching(greatestKey, new(big.Int).Sub(prime, big.NewInt(d+1)))
		for n := range 49 {
			checkTag(t, greatestKey, msg, ones[:n])
		}
	}
}

// TestTagBeyond16Bytes has sums of the accumulator and s at and beside 2^128.
func TestTagBeyond16Bytes(t *testing.T) {
	for _, key := range factors() {
		for _, sum := range []*big.Int{unit, big.NewInt(2), power(64), power(127), new(big.Int).Sub(power(128), unit), power(128), power(129), new(big.Int).Sub(prime, unit)} {
			msg := reaching(key, sum)
			for d := int64(-2); d <= 2; d++ {
				s := new(big.Int).Sub(power(128), sum)
				copy(key[16:], modelBytes(s.Add(s, big.NewInt(d)), 16))
				want := modelBytes(big.NewInt(d), 16)
				if got := poly.Tag(key, msg); !bytes.Equal(got[:], want) {
					t.Errorf("Tag of %x and %x = %x, want %x", key, msg, got, want)
				}
			}
			copy(key[16:], ones)
			checkTag(t, key, msg)
		}
	}
}

func TestTagOfNothing(t *testing.T) {
	for _, key := range keys() {
		for _, msg := range [][][]byte{nil, {}, {nil}, {{}}, {nil, {}, nil}, {make([]byte, 0, 100)}} {
			if got := poly.Tag(key, msg...); !bytes.Equal(got[:], key[16:]) {
				t.Errorf("Tag of %x and %v = %x", key, msg, got)
			}
		}
	}
}

// TestTagOfParts divides a message in many ways, at the ends of blocks and
// between them.
func TestTagOfParts(t *testing.T) {
	msg := message(100)
	for _, key := range [][32]byte{otherKey, onesKey} {
		want := modelTag(key, msg)
		check := func(parts ...[]byte) {
			t.Helper()
			if got := poly.Tag(key, parts...); got != want {
				t.Errorf("Tag of the parts %x = %x, want %x", parts, got, want)
			}
		}
		check(msg)
		for i := range len(msg) + 1 {
			check(msg[:i], msg[i:])
			check(nil, msg[:i], []byte{}, nil, msg[i:], []byte{})
			for j := i; j <= len(msg); j += 3 {
				check(msg[:i], msg[i:j], msg[j:])
			}
		}
		for size := 1; size <= len(msg); size++ {
			check(slices.Collect(slices.Chunk(msg, size))...)
		}
	}
	// One part may be handed in more than once, and each in its own place.
	checkTag(t, otherKey, msg[:21], msg[:21], msg[5:])
	checkTag(t, otherKey, msg[50:], msg[:50])
}

// TestTagsDiffer holds tags of messages against each other that blocks of another
// form, or parts that are padded, would make equal.
func TestTagsDiffer(t *testing.T) {
	var msgs [][]byte
	for n := range 50 {
		msgs = append(msgs, make([]byte, n), append(make([]byte, n), 1), append(make([]byte, n), 1, 0), append(bytes.Repeat([]byte{1}, n), 2))
	}
	seen := map[[16]byte][]byte{}
	for _, msg := range msgs {
		tag := poly.Tag(otherKey, msg)
		if before, ok := seen[tag]; ok && !bytes.Equal(before, msg) {
			t.Errorf("%x and %x have the tag %x", before, msg, tag)
		}
		seen[tag] = msg
	}
}

// overlong returns parts of a message of up to MaxData bytes and more; the
// longer ones end in the midst of a part or between two.
func overlong(data []byte) [][][]byte {
	const most = api.MaxData
	return [][][]byte{
		{data[:most-17]},
		{data[:most-1]},
		{data[:most]},
		{data[:100], data[100:most]},
		{data[:most], nil, {}},
		{data[:most-1], data[most-1 : most]},
		{data[:most+1]},
		{data[:most+16]},
		{data},
		{data[:most], data[most : most+1]},
		{data[:most], data[most:]},
		{data[:most-1], data[most-1 : most+1]},
		{data[:most-1], data[most-1:]},
		{data[:100], data[100 : most+7], data[most+7:]},
		{data[:most+1], data[:most+1], data[:1]},
	}
}

func TestTagOfMaxData(t *testing.T) {
	data := message(2*api.MaxData + 5)
	whole := modelTag(otherKey, data[:api.MaxData])
	for i, parts := range overlong(data) {
		checkTag(t, otherKey, parts...)
		if got := poly.Tag(otherKey, parts...); len(bytes.Join(parts, nil)) >= api.MaxData && got != whole {
			t.Errorf("%d: Tag = %x, want %x", i, got, whole)
		}
	}
	single := slices.Collect(slices.Chunk(data[:api.MaxData+3], 1))
	if got := poly.Tag(otherKey, single...); got != whole {
		t.Errorf("Tag of single bytes = %x, want %x", got, whole)
	}
	// One openssl made.
	for i := range data {
		data[i] = byte(7*i + 3 + i/256)
	}
	key := zeroKey
	for i := range key {
		key[i] = byte(7*i + 129)
	}
	for n, want := range map[int]string{
		16:              "79690807b2649768b7a2dc3b68e37b78",
		17:              "7096c76b3ea7b3086769437c0cee677a",
		api.MaxData - 1: "2b6dd660c009103228ea2c1b2b4ab248",
		api.MaxData:     "ef0d0cdff31da9d4ce71b10945459a5d",
		len(data):       "ef0d0cdff31da9d4ce71b10945459a5d",
	} {
		if got := poly.Tag(key, data[:n]); got != half(want) {
			t.Errorf("Tag of %d bytes = %x, want %s", n, got, want)
		}
	}
}

func TestSame(t *testing.T) {
	for _, tag := range [][16]byte{{}, half("ffffffffffffffffffffffffffffffff"), half("a8061dc1305136c6c22b8baf0c0127a9")} {
		if !poly.Same(tag, tag) {
			t.Errorf("Same(%x, %x) is false", tag, tag)
		}
		for at := range tag {
			for x := 1; x < 256; x++ {
				other := tag
				other[at] ^= byte(x)
				if poly.Same(tag, other) || poly.Same(other, tag) {
					t.Errorf("Same(%x, %x) is true", tag, other)
				}
			}
		}
	}
}

// TestSameOfSeveral has differences in two bytes that make up for each other,
// and differences in all bytes.
func TestSameOfSeveral(t *testing.T) {
	tag := half("a8061dc1305136c6c22b8baf0c0127a9")
	for i := range tag {
		for j := range i {
			for _, x := range [][2]byte{{1, 1}, {128, 128}, {255, 255}, {1, 255}, {1, 2}} {
				other := tag
				other[i] += x[0]
				other[j] += x[1]
				third := tag
				third[i] ^= x[0]
				third[j] ^= x[1]
				if poly.Same(tag, other) || poly.Same(tag, third) {
					t.Errorf("Same(%x, %x) or Same(%x, %x) is true", tag, other, tag, third)
				}
			}
		}
	}
	inverse := tag
	for i := range inverse {
		inverse[i] ^= 255
	}
	turned := tag
	slices.Reverse(turned[:])
	if poly.Same(tag, inverse) || poly.Same(tag, turned) || poly.Same(tag, [16]byte{}) {
		t.Errorf("Same of %x and another tag is true", tag)
	}
}

// checkSum compares the sum of m with the model's of the data.
func checkSum(t *testing.T, m *poly.Mac, key [32]byte, data []byte) {
	t.Helper()
	want := modelTag(key, data)
	if got := m.Sum(); got != want {
		t.Errorf("Sum of %d bytes with %x = %x, want %x", len(data), key, got, want)
	}
	if again := m.Sum(); again != want {
		t.Errorf("the second Sum of %d bytes with %x = %x, want %x", len(data), key, again, want)
	}
}

func TestMac(t *testing.T) {
	key := keyOf("85d6be7857556d337f4452fe42d506a8", "0103808afb0db2fd4abff6af4149f51b")
	m := poly.New(key)
	if got := m.Sum(); got != half("0103808afb0db2fd4abff6af4149f51b") {
		t.Errorf("Sum of no data = %x", got)
	}
	m.Add([]byte("Cryptographic "), nil, []byte("Forum"))
	checkSum(t, m, key, []byte("Cryptographic Forum"))
	m.Add([]byte(" Research Group"))
	if got := m.Sum(); got != half("a8061dc1305136c6c22b8baf0c0127a9") {
		t.Errorf("Sum of the RFC's example = %x", got)
	}
	m.Add([]byte("!"))
	checkSum(t, m, key, []byte("Cryptographic Forum Research Group!"))
}

func TestMacOfNothing(t *testing.T) {
	for _, key := range keys() {
		m := poly.New(key)
		checkSum(t, m, key, nil)
		m.Add()
		m.Add(nil)
		m.Add(nil, []byte{}, make([]byte, 0, 9))
		m.Add([][]byte{}...)
		checkSum(t, m, key, nil)
		m.Add([]byte{7})
		m.Add()
		m.Add(nil, nil)
		checkSum(t, m, key, []byte{7})
	}
}

// TestMacOfParts adds a message in parts of each size, in a call each and all in
// one call.
func TestMacOfParts(t *testing.T) {
	msg := message(100)
	for _, key := range [][32]byte{zeroKey, otherKey, onesKey} {
		for size := 1; size <= len(msg); size++ {
			calls, once := poly.New(key), poly.New(key)
			for part := range slices.Chunk(msg, size) {
				calls.Add(part)
			}
			once.Add(slices.Collect(slices.Chunk(msg, size))...)
			checkSum(t, calls, key, msg)
			checkSum(t, once, key, msg)
		}
	}
}

// TestMacOfMany adds drawn parts in drawn calls, and asks for the sum in between.
func TestMacOfMany(t *testing.T) {
	draw := draws()
	for _, key := range keys() {
		m := poly.New(key)
		var all []byte
		for range 20 {
			parts := make([][]byte, draw()%4)
			for i := range parts {
				parts[i] = message(int(draw() % 70))
				all = append(all, parts[i]...)
			}
			m.Add(parts...)
			if draw()%3 > 0 {
				checkSum(t, m, key, all)
			}
		}
		checkSum(t, m, key, all)
		if got := poly.Tag(key, all); got != m.Sum() {
			t.Errorf("Tag with %x of what was added is %x, but the sum is %x", key, got, m.Sum())
		}
	}
}

func TestMacOfMaxData(t *testing.T) {
	const most = api.MaxData
	data := message(2*most + 5)
	for _, parts := range overlong(data) {
		once, calls := poly.New(otherKey), poly.New(otherKey)
		once.Add(parts...)
		for _, part := range parts {
			calls.Add(part)
		}
		checkSum(t, once, otherKey, bytes.Join(parts, nil))
		checkSum(t, calls, otherKey, bytes.Join(parts, nil))
	}
	// Byte by byte up to MaxData, over it, and far beyond it.
	m := poly.New(otherKey)
	m.Add(data[:most-5])
	for n := most - 5; n < most+40; n++ {
		checkSum(t, m, otherKey, data[:n])
		m.Add(data[n : n+1])
	}
	m.Add(data, nil, data)
	checkSum(t, m, otherKey, data)
}

func TestMacOfNobody(t *testing.T) {
	var none *poly.Mac
	for name, m := range map[string]*poly.Mac{"a nil Mac": none, "a Mac that New did not make": {}, "a new Mac": new(poly.Mac)} {
		if got := m.Sum(); got != [16]byte{} {
			t.Errorf("Sum of %s = %x", name, got)
		}
		data := message(100)
		if n := testing.AllocsPerRun(10, func() { m.Add(data) }); n > 0 {
			t.Errorf("%s takes memory %v times for what has no effect", name, n)
		}
		m.Add()
		m.Add(nil)
		m.Add(message(40), nil, message(7))
		m.Add(message(api.MaxData + 1))
		if got := m.Sum(); got != [16]byte{} {
			t.Errorf("Sum of %s with data = %x", name, got)
		}
	}
}

// TestMacOfZeros has the key of zeros, whose tags are all 0, and keys of which only
// one half is 0.
func TestMacOfZeros(t *testing.T) {
	for _, key := range [][32]byte{zeroKey, keyOf("", "01"), keyOf("01", "")} {
		m := poly.New(key)
		m.Add(message(20))
		checkSum(t, m, key, message(20))
	}
}

// TestMacKeepsNoMore adds to a Mac that holds MaxData bytes: it takes no memory
// for what does not count.
func TestMacKeepsNoMore(t *testing.T) {
	data := message(2 * api.MaxData)
	m := poly.New(otherKey)
	m.Add(data)
	if n := testing.AllocsPerRun(10, func() { m.Add(data[:1], data) }); n > 0 {
		t.Errorf("a full Mac takes memory %v times", n)
	}
	checkSum(t, m, otherKey, data)
}

// TestMacsStandAlone adds to several in turn, and to copies of one.
func TestMacsStandAlone(t *testing.T) {
	data := message(500)
	a, b, c := poly.New(otherKey), poly.New(otherKey), poly.New(onesKey)
	a.Add(data[:30])
	b.Add(data[100:200])
	c.Add(data[:30])
	a.Add(data[30:33])
	checkSum(t, b, otherKey, data[100:200])
	checkSum(t, a, otherKey, data[:33])
	checkSum(t, c, onesKey, data[:30])

	// Several parts, so that there may be room behind the data.
	for n := range 60 {
		m := poly.New(otherKey)
		m.Add(slices.Collect(slices.Chunk(data[:n], 5))...)
		twin := *m
		m.Add(data[100:103])
		twin.Add(data[200:203])
		m.Add(data[103:110])
		checkSum(t, m, otherKey, slices.Concat(data[:n], data[100:110]))
		checkSum(t, &twin, otherKey, slices.Concat(data[:n], data[200:203]))
	}
}

// TestArgumentsStay hands in lists with room behind them, and looks whether the
// lists or what lies behind them have changed, or change an answer later.
func TestArgumentsStay(t *testing.T) {
	for _, n := range []int{0, 1, 15, 16, 17, 500, api.MaxData, api.MaxData + 9} {
		data := message(n + 200)
		before := bytes.Clone(data)
		m := poly.New(otherKey)
		blocks := poly.Blocks(data[:n])
		tag := poly.Tag(otherKey, data[:n/2], data[n/2:n])
		m.Add(data[:n/3])
		m.Add(data[n/3:n/2], data[n/2:n])
		m.Sum()
		if !bytes.Equal(data, before) {
			t.Errorf("a call changes the %d bytes that it is given", n)
		}
		if tag != modelTag(otherKey, before[:n]) {
			t.Errorf("Tag of %d bytes = %x", n, tag)
		}
		held := slices.Clone(blocks)
		clear(data)
		if !slices.Equal(blocks, held) {
			t.Errorf("the blocks of %d bytes change with the bytes", n)
		}
		checkSum(t, m, otherKey, before[:n])
		m.Add(before[n:])
		checkSum(t, m, otherKey, before)
		copy(data, before)
		clear(blocks)
		if !bytes.Equal(data, before) {
			t.Errorf("%d bytes change with their blocks", n)
		}
	}
}

// TestListsOfPartsStay does so with the list of the parts itself.
func TestListsOfPartsStay(t *testing.T) {
	a, b, more := message(10), message(20), message(30)
	parts := [][]byte{a, nil, b, more}
	m := poly.New(otherKey)
	m.Add(parts[:3]...)
	poly.Tag(otherKey, parts[:3]...)
	if len(parts[0]) != 10 || &parts[0][0] != &a[0] || parts[1] != nil || len(parts[2]) != 20 || &parts[2][0] != &b[0] || &parts[3][0] != &more[0] {
		t.Error("a call changes the list of its parts")
	}
	parts[0], parts[2] = more, nil
	checkSum(t, m, otherKey, slices.Concat(a, b))
}

// TestAnswersStandAlone asks twice: an answer does not hang on an earlier one, and
// behind the blocks lies nothing.
func TestAnswersStandAlone(t *testing.T) {
	for _, n := range append(lengths(), api.MaxData-1, api.MaxData+1) {
		data := message(n)
		first := poly.Blocks(data)
		want := slices.Clone(first)
		for _, b := range first[:cap(first)][len(first):] {
			if b != [17]byte{} {
				t.Errorf("behind the blocks of %d bytes lies %x", n, b)
			}
		}
		clear(first[:cap(first)])
		poly.Tag(onesKey, message(77))
		if again := poly.Blocks(data); !slices.Equal(again, want) {
			t.Errorf("the blocks of %d bytes change with an earlier answer", n)
		}
		if one, two := poly.Tag(otherKey, data), poly.Tag(otherKey, data); one != two {
			t.Errorf("the second tag of %d bytes is %x, the first one %x", n, two, one)
		}
	}
}
