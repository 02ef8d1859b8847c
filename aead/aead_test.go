package aead_test

import (
	"bytes"
	"encoding/binary"
	"encoding/hex"
	"slices"
	"strings"
	"testing"

	"umbra/aead"
	"umbra/api"
	"umbra/chacha"
	"umbra/poly"
)

// most is how many bytes may be sealed, and may be added to them.
const most = 1 << 14

// input is what bytes are sealed with.
type input struct {
	key   [32]byte
	nonce [12]byte
}

func inputOf(key, nonce string) (in input) {
	copy(in.key[:], unhex(key))
	copy(in.nonce[:], unhex(nonce))
	return in
}

// different is an input of bytes that all differ.
func different() (in input) {
	for i := range in.key {
		in.key[i] = byte(7*i + 129)
	}
	for i := range in.nonce {
		in.nonce[i] = byte(13*i + 77)
	}
	return in
}

// edges are inputs of bytes 0, of bytes 255, and of bytes that all differ.
func edges() []input {
	zeros, ones := strings.Repeat("00", 32), strings.Repeat("ff", 32)
	return []input{
		inputOf(zeros, zeros), inputOf(ones, ones), inputOf(ones, zeros), inputOf(zeros, ones), different(),
	}
}

// inputs returns the inputs at the edges, and some that are drawn.
func inputs() []input {
	l, draw := edges(), draws()
	for range 10 {
		var in input
		for i := range in.key {
			in.key[i] = byte(draw())
		}
		for i := range in.nonce {
			in.nonce[i] = byte(draw())
		}
		l = append(l, in)
	}
	return l
}

// draws returns a function that draws numbers, the same ones in every run.
func draws() func() uint32 {
	state := uint64(0x9e3779b97f4a7c15)
	return func() uint32 {
		state ^= state << 13
		state ^= state >> 7
		state ^= state << 17
		return uint32(state >> 16)
	}
}

// unhex returns the bytes that s writes in hexadecimal digits and spaces.
func unhex(s string) []byte {
	b, err := hex.DecodeString(strings.Join(strings.Fields(s), ""))
	if err != nil {
		panic(err)
	}
	return b
}

// counted returns n bytes that count on by step.
func counted(n, step, from int) []byte {
	b := make([]byte, n)
	for i := range b {
		b[i] = byte(step*i + from + i/256)
	}
	return b
}

// added and text return n bytes to be added, and n bytes to be sealed. Behind
// their end lie bytes that must not count.
func added(n int) []byte { return counted(n+40, 7, 3)[:n] }
func text(n int) []byte  { return counted(n+40, 11, 5)[:n] }

// lengths are those at and beside the ends of blocks, and some of which two bytes
// count.
func lengths() []int {
	return []int{0, 1, 2, 15, 16, 17, 31, 32, 33, 63, 64, 65, 255, 256, 257, 300, 511, 512, 513, 1000}
}

// The calls, with an input at once.

func mac(in input, aad, cipher []byte) [16]byte { return aead.Mac(in.key, in.nonce, aad, cipher) }

func seal(in input, aad, plain []byte) ([]byte, api.Errno) {
	return aead.Seal(in.key, in.nonce, aad, plain)
}

func open(in input, aad, sealed []byte) ([]byte, api.Errno) {
	return aead.Open(in.key, in.nonce, aad, sealed)
}

// The model lays the parts out as one list of bytes, and encrypts byte by byte.

func modelKey(in input) [32]byte {
	return [32]byte(chacha.Stream(in.key, 0, in.nonce, 32))
}

// modelPadded returns b and bytes 0 behind it.
func modelPadded(b []byte) []byte {
	l := bytes.Clone(b)
	for len(l)%16 != 0 {
		l = append(l, 0)
	}
	return l
}

// modelLayout returns what the tag is of.
func modelLayout(aad, cipher []byte) []byte {
	all := slices.Concat(modelPadded(aad), modelPadded(cipher))
	all = binary.LittleEndian.AppendUint64(all, uint64(len(aad)))
	return binary.LittleEndian.AppendUint64(all, uint64(len(cipher)))
}

func modelMac(in input, aad, cipher []byte) [16]byte {
	return poly.Tag(modelKey(in), modelLayout(aad, cipher))
}

// modelSealed returns what is sealed, and its tag, whatever its length.
func modelSealed(in input, aad, plain []byte) []byte {
	sealed := slices.Clone(plain)
	for i := range sealed {
		if i%64 == 0 {
			block := chacha.Block(in.key, uint32(1+i/64), in.nonce)
			for j := range min(64, len(sealed)-i) {
				sealed[i+j] ^= block[j]
			}
		}
	}
	tag := modelMac(in, aad, sealed)
	return append(sealed, tag[:]...)
}

// checkRefused looks whether a result is an error and nothing else.
func checkRefused(t *testing.T, name string, got []byte, err, want api.Errno) {
	t.Helper()
	if err != want {
		t.Errorf("%s: the error is %v, want %v", name, err, want)
	}
	if len(got) != 0 || cap(got) != 0 {
		t.Errorf("%s: beside the error %v there are %d bytes, and room for %d", name, err, len(got), cap(got))
	}
}

// checkSeal looks whether Seal makes these bytes, and whether Open inverts it.
func checkSeal(t *testing.T, in input, aad, plain, want []byte) {
	t.Helper()
	got, err := seal(in, aad, plain)
	if err != api.OK || !bytes.Equal(got, want) {
		t.Errorf("Seal of %d and %d bytes with %x = %.100x, %v, want %.100x", len(aad), len(plain), in, got, err, want)
	}
	checkOpen(t, in, aad, want, plain)
}

// checkOpen looks whether Open finds these bytes.
func checkOpen(t *testing.T, in input, aad, sealed, want []byte) {
	t.Helper()
	got, err := open(in, aad, sealed)
	if err != api.OK || !bytes.Equal(got, want) {
		t.Errorf("Open of %d and %d bytes with %x = %.100x, %v, want %.100x", len(aad), len(sealed), in, got, err, want)
	}
}

// The inputs of RFC 8439: 2.8.2 and A.5.

func ladies() (in input, aad, plain, sealed []byte) {
	in = inputOf("808182838485868788898a8b8c8d8e8f 909192939495969798999a9b9c9d9e9f", "070000004041424344454647")
	return in, unhex("50515253c0c1c2c3c4c5c6c7"),
		[]byte("Ladies and Gentlemen of the class of '99: If I could offer you only one tip for the future, sunscreen would be it."),
		unhex(`
			d31a8d34648e60db7b86afbc53ef7ec2 a4aded51296e08fea9e2b5a736ee62d6
			3dbea45e8ca9671282fafb69da92728b 1a71de0a9e060b2905d6a5b67ecd3b36
			92ddbd7f2d778b8c9803aee328091b58 fab324e4fad675945585808b4831d7bc
			3ff4def08e4b7a9de576d26586cec64b 6116
			1ae10b594f09e26a7e902ecbd0600691`)
}

func drafts() (in input, aad, plain, sealed []byte) {
	in = inputOf("1c9240a5eb55d38af333888604f6b5f0 473917c1402b80099dca5cbc207075c0", "000000000102030405060708")
	return in, unhex("f33388860000000000004e91"),
		[]byte("Internet-Drafts are draft documents valid for a maximum of six months and may be updated, replaced, or obsoleted by other documents at any time. It is inappropriate to use Internet-Drafts as reference material or to cite them other than as /\u201cwork in progress./\u201d"),
		unhex(`
			64a0861575861af460f062c79be643bd 5e805cfd345cf389f108670ac76c8cb2
			4c6cfc18755d43eea09ee94e382d26b0 bdb7b73c321b0100d4f03b7f355894cf
			332f830e710b97ce98c8a84abd0b9481 14ad176e008d33bd60f982b1ff37c855
			9797a06ef4f0ef61c186324e2b350638 3606907b6a7c02b0f9f6157b53c867e4
			b9166c767b804d46a59b5216cde7a4e9 9040c5a40433225ee282a1b0a06c523e
			af4534d7f83fa1155b0047718cbc546a 0d072b04b3564eea1b422273f548271a
			0bb2316053fa76991955ebd63159434e cebb4e466dae5a1073a6727627097a10
			49e617d91d361094fa68f0ff77987130 305beaba2eda04df997b714d6c6f2c29
			a6ad5cb4022b02709b
			eead9d67890cbb22392336fea1851f38`)
}

func TestKey(t *testing.T) {
	zeros, ones := strings.Repeat("00", 31), strings.Repeat("ff", 32)
	for _, x := range []struct{ name, key, nonce, want string }{
		{"RFC 8439, 2.6.2", "808182838485868788898a8b8c8d8e8f 909192939495969798999a9b9c9d9e9f", "000000000001020304050607", "8ad5a08b905f81cc815040274ab29471a833b637e3fd0da508dbb8e2fdd1a646"},
		{"RFC 8439, 2.8.2", "808182838485868788898a8b8c8d8e8f 909192939495969798999a9b9c9d9e9f", "070000004041424344454647", "7bac2b252db447af09b67a55a4e955840ae1d6731075d9eb2a9375783ed553ff"},
		{"RFC 8439, A.4, 1: zeros", "", "", "76b8e0ada0f13d90405d6ae55386bd28bdd219b8a08ded1aa836efcc8b770dc7"},
		{"RFC 8439, A.4, 2", zeros + "01", "000000000000000000000002", "ecfa254f845f647473d3cb140da9e87606cb33066c447b87bc2666dde3fbb739"},
		{"RFC 8439, A.4, 3", "1c9240a5eb55d38af333888604f6b5f0 473917c1402b80099dca5cbc207075c0", "000000000000000000000002", "965e3bc6f9ec7ed9560808f4d229f94b137ff275ca9b3fcbdd59deaad23310ae"},
		// These openssl made.
		{"all ones", ones, ones, "d6e63495eafed7fc3bf8e7c419fa77be8234a6a49df517ebab06c8f65d9f7a17"},
		{"a key of ones", ones, "", "f6b898412f4ab061943167c1e23efaa2ba98e345a093f0b06da13bffdbd4b2c7"},
		{"a nonce of ones", "", ones, "4c7ac8d76b06506f9948ba673b2a8e6fa5a7acee3e5efe4755ec7fb58634ec76"},
		{"the first bit of the key", "01", "", "c5d30a7ce1ec119378c84f487d775a8542f13ece238a9455e8229e888de85bbd"},
		{"the last bit of the key", zeros + "80", "", "2c6d2c157a6023a0e85894df97da8c333017115b97b13fbe2a43058fbcba87b4"},
		{"the first bit of the nonce", "", "01", "3db41d3aa0d329285de6f225e6e24bd59c9a17006943d5c9b680e3873bdc683a"},
		{"the last bit of the nonce", "", zeros[:22] + "80", "213a358a4865b310b0ef6b3fc1b8c2b31be1cffac4a904cfb166884aa00a5e95"},
		{"all different", hex.EncodeToString(counted(32, 7, 129)), hex.EncodeToString(counted(12, 13, 77)), "5877772fb93ae81a38e6bc488be3590b918edd9965eb21aed210dc23ec6d0b5b"},
	} {
		in := inputOf(x.key, x.nonce)
		if got := aead.Key(in.key, in.nonce); !bytes.Equal(got[:], unhex(x.want)) {
			t.Errorf("%s: the key is %x, want %s", x.name, got, x.want)
		}
	}
}

// TestKeyOfMany holds keys against blocks, also where one bit of an input is
// turned.
func TestKeyOfMany(t *testing.T) {
	check := func(in input) {
		t.Helper()
		got, block := aead.Key(in.key, in.nonce), chacha.Block(in.key, 0, in.nonce)
		if !bytes.Equal(got[:], block[:32]) || got != modelKey(in) {
			t.Errorf("Key of %x = %x, but the block is %x", in, got, block)
		}
	}
	for _, in := range inputs() {
		check(in)
	}
	for _, in := range edges() {
		for i := range 256 {
			one := in
			one.key[i/8] ^= 1 << (i % 8)
			check(one)
		}
		for i := range 96 {
			one := in
			one.nonce[i/8] ^= 1 << (i % 8)
			check(one)
		}
	}
}

// opensslTags are tags that openssl made of the first bytes of added and of those
// of text, sealed with the input different.
func opensslTags() []tagged {
	return []tagged{
		{0, 0, "bfe332adcb34c4bb9830c82e56ca3b69"},
		{1, 0, "629957f2eb1845a342f34402488b853b"},
		{0, 1, "5875853a8a39973232fb17462cf96446"},
		{1, 1, "23293d5d283ca1de992ed78af74a61fd"},
		{15, 0, "f43370bccf9819241f43a79aa0e8f8e3"},
		{0, 15, "6af9a0bf0fe5ad638d77e7f916d9dee3"},
		{15, 15, "0fe1d6ab71857bded5b0419fec5b482d"},
		{16, 0, "411bfa9b322e8e1339708c78568089d7"},
		{0, 16, "56f365a6ac8d2eced1da7376cb626352"},
		{16, 16, "11963a1049123da66d431b5e9bd29032"},
		{17, 0, "bc4b98c46f95ec6cf1c1f7c8ecb6fa4a"},
		{0, 17, "b977113ce9b76b83f9428fd8b8e8677d"},
		{17, 17, "4cb2a70b48c89381777843be3ef580f5"},
		{31, 0, "a04ee64e46f0e513a62ec60e27b14b7d"},
		{0, 31, "24029a097edc3d0fc86b1ca18fe03693"},
		{31, 31, "f9a955a45a21379a0326091693d4f387"},
		{32, 0, "01bdb20fdf84089bff29c2b68762570c"},
		{0, 32, "6841ef23bc722393256574fcba9a881b"},
		{32, 32, "f39371513ee15a450eb51f0ab8cb5e59"},
		{33, 0, "f2613cb14ac54a7c73fa28d94c2eabd6"},
		{0, 33, "83170d2bc4f5e1c3d6432239352c5f1c"},
		{33, 33, "7d548584af6f7a0837850fc9d4d91a9d"},
		{255, 0, "6e7a8f271e4da18b492249e944d7d4ed"},
		{0, 255, "f65cefc14b6d11a18625b1535fc46aa7"},
		{255, 255, "07da51c6ce23b3c1ce62fbf9c7e3819b"},
		{256, 0, "b3a1dc710f06d1ab9058b9388db40317"},
		{0, 256, "bc7cdbccb5c941afde9c286317ff52b2"},
		{256, 256, "45de209a2905cfc7081d0d2adbd3c947"},
		{257, 0, "0cef1dc321600eb6dd60c411781f96e5"},
		{0, 257, "81b56e96fe54852f3843cbb5e4878119"},
		{257, 257, "a4c19e18d73281a145629602fad700a6"},
		{300, 0, "f0224df7b28cec3120863d94be8db204"},
		{0, 300, "769dfc8da21c0ef308c8716bb9a54f62"},
		{300, 300, "0e0094f727f363196e68320a16cb3857"},
		{15, 17, "00db3ff5958bbe7001b0893d5812197c"},
		{17, 15, "a0dcf1867f07579437584cf30f919904"},
		{16, 33, "e5dcbef4a1f9b6359b21f83536deb3c2"},
		{33, 16, "abb6f7a18508fb49b4ab57c9c54d0143"},
		{300, 5, "35ad39c93c4fbd1eb22459480a224f8b"},
		{5, 1000, "d55c5f8e5316e666fd2313eb1206a228"},
		{most, 0, "489ff2159d450fb8b31d02a5a7290705"},
		{0, most, "c58d573605f7d3c1fe80494330f5d914"},
		{most, most, "fd836f6f0bc69c384eaa773ac8ba3f74"},
		{most - 1, most, "6e3cb6df91270dfe10b5a10c2dd58e4e"},
		{most, most - 1, "37648364a1696c2af632002b10805769"},
		{most - 1, most - 1, "a81ccad427cbdcefb83d2afd749aa643"},
	}
}

// tagged is a tag of so many bytes of each part.
type tagged struct {
	aad, text int
	tag       string
}

func TestMac(t *testing.T) {
	for _, rfc := range []func() (in input, aad, plain, sealed []byte){ladies, drafts} {
		in, aad, plain, sealed := rfc()
		if got := mac(in, aad, sealed[:len(plain)]); !bytes.Equal(got[:], sealed[len(plain):]) {
			t.Errorf("Mac of %x and %x = %x", aad, sealed[:len(plain)], got)
		}
	}
	in := different()
	for _, x := range opensslTags() {
		cipher := chacha.Xor(in.key, 1, in.nonce, text(x.text))
		if got := mac(in, added(x.aad), cipher); !bytes.Equal(got[:], unhex(x.tag)) {
			t.Errorf("Mac of %d and %d bytes = %x, want %s", x.aad, x.text, got, x.tag)
		}
	}
}

// checkMac compares the tag with the model's.
func checkMac(t *testing.T, in input, aad, cipher []byte) {
	t.Helper()
	if got, want := mac(in, aad, cipher), modelMac(in, aad, cipher); got != want {
		t.Errorf("Mac of %x, %d bytes %.40x and %d bytes %.40x = %x, want %x", in, len(aad), aad, len(cipher), cipher, got, want)
	}
}

func TestMacOfMany(t *testing.T) {
	for _, in := range inputs() {
		for _, n := range lengths() {
			for _, m := range lengths() {
				checkMac(t, in, added(n), text(m))
			}
		}
	}
	in := different()
	for n := range 70 {
		for m := range 70 {
			checkMac(t, in, added(n), text(m))
			checkMac(t, in, make([]byte, n), make([]byte, m))
			checkMac(t, in, bytes.Repeat([]byte{255}, n), bytes.Repeat([]byte{255}, m))
		}
	}
}

func TestMacOfNothing(t *testing.T) {
	for _, in := range inputs() {
		// One block, of two lengths 0.
		want := poly.Tag(modelKey(in), make([]byte, 16))
		for _, aad := range [][]byte{nil, {}, added(0), added(9)[:0]} {
			for _, cipher := range [][]byte{nil, {}, text(0), text(9)[:0]} {
				if got := mac(in, aad, cipher); got != want {
					t.Errorf("Mac of nothing with %x = %x, want %x", in, got, want)
				}
			}
		}
	}
}

// TestMacOfLengths writes the last block out.
func TestMacOfLengths(t *testing.T) {
	in := different()
	for n, want := range map[int]string{
		1: "0100000000000000", 255: "ff00000000000000", 256: "0001000000000000", 257: "0101000000000000",
		511: "ff01000000000000", 4096: "0010000000000000", most: "0040000000000000", 40000: "409c000000000000",
	} {
		none := make([]byte, 8)
		part := text(n)
		aadOnly, textOnly := mac(in, part, nil), mac(in, nil, part)
		if tag := poly.Tag(modelKey(in), modelPadded(part), unhex(want), none); aadOnly != tag {
			t.Errorf("Mac of %d added bytes = %x, want %x", n, aadOnly, tag)
		}
		if tag := poly.Tag(modelKey(in), modelPadded(part), none, unhex(want)); textOnly != tag {
			t.Errorf("Mac of %d encrypted bytes = %x, want %x", n, textOnly, tag)
		}
		if aadOnly == textOnly {
			t.Errorf("%d bytes have one tag as either part", n)
		}
	}
}

// TestMacsDiffer has parts whose bytes, with their padding, are the same: only the
// lengths tell them apart.
func TestMacsDiffer(t *testing.T) {
	for _, in := range edges() {
		seen := map[[16]byte][2]int{}
		check := func(n, m int) {
			t.Helper()
			tag := mac(in, make([]byte, n), make([]byte, m))
			if other, ok := seen[tag]; ok && other != [2]int{n, m} {
				t.Errorf("%d and %d bytes 0 have the tag of %v", n, m, other)
			}
			seen[tag] = [2]int{n, m}
		}
		for n := range 50 {
			for m := range 50 {
				check(n, m)
			}
		}
		// 256 bytes, and none, of either part.
		for _, n := range []int{0, 256, 512, 768} {
			check(n, 768-n)
		}
	}
	in := different()
	all := text(96)
	for n := range len(all) {
		for m := range n {
			if mac(in, all[:n], all[n:]) == mac(in, all[:m], all[m:]) {
				t.Errorf("96 bytes have one tag with %d and with %d added ones", n, m)
			}
		}
	}
}

// TestMacOfMuch has parts that are longer than what may be sealed, up to and
// beyond the MaxData bytes that Tag looks at.
func TestMacOfMuch(t *testing.T) {
	in := different()
	for _, x := range []tagged{
		// These openssl made, of the first MaxData bytes of the layout.
		{0, 1, "ade63b340b3f02b410dd686840e1a289"},
		{most + 1, 0, "7455dbdab9acbf82ed0abb5462907c44"},
		{0, most + 1, "549d01f85b18cd82ac5666622f0c7ab5"},
		{40000, 20000, "6f9c2e50f1a942d1ccdf130ae562d4cc"},
		{32768, 32752, "b02389cf90e046b73a6932f35ee81b99"},
		{65520, 0, "89dc7fae637478f3fb0263294e886860"},
		{0, 65520, "d1c1500fbb016643ec0a7ec630b96a06"},
		{65521, 0, "1054c100668db59f8aa7b4caa67bc2ab"},
		{32768, 32753, "12e7aa816c3a0c57987850f86cf4ef9e"},
		{65536, 0, "2d36052ba83246ca2625e4c6c3e0b540"},
		{0, 65536, "4ed12c9dabbbc8b5b15d6c8c08d3c5d3"},
		{65536, 77, "2d36052ba83246ca2625e4c6c3e0b540"},
		{70000, 1, "2d36052ba83246ca2625e4c6c3e0b540"},
	} {
		aad, cipher := added(x.aad), text(x.text)
		if got := mac(in, aad, cipher); !bytes.Equal(got[:], unhex(x.tag)) {
			t.Errorf("Mac of %d and %d bytes = %x, want %s", x.aad, x.text, got, x.tag)
		}
		checkMac(t, in, aad, cipher)
	}
}

// TestExample is the chapter's.
func TestExample(t *testing.T) {
	in := inputOf("", "01")
	sealed, err := seal(in, []byte("a"), []byte("plain"))
	if err != api.OK || len(sealed) != 21 || !bytes.Equal(sealed, unhex("369c978680 388e13eb293e7d344fe2341fd5bc423a")) {
		t.Fatalf("Seal = %x, %v", sealed, err)
	}
	plain, err := open(in, []byte("a"), sealed)
	if err != api.OK || string(plain) != "plain" {
		t.Errorf("Open = %q, %v", plain, err)
	}
	sealed[3] ^= 4
	plain, err = open(in, []byte("a"), sealed)
	checkRefused(t, "the example with one bit turned", plain, err, api.ErrTag)
}

func TestSeal(t *testing.T) {
	for _, rfc := range []func() (in input, aad, plain, sealed []byte){ladies, drafts} {
		in, aad, plain, sealed := rfc()
		checkSeal(t, in, aad, plain, sealed)
	}
	in := different()
	for _, x := range opensslTags() {
		plain := text(x.text)
		want := append(chacha.Xor(in.key, 1, in.nonce, plain), unhex(x.tag)...)
		checkSeal(t, in, added(x.aad), plain, want)
	}
}

func TestSealOfNothing(t *testing.T) {
	for _, in := range inputs() {
		for _, n := range []int{0, 1, 16, 100} {
			for _, plain := range [][]byte{nil, {}, text(0)} {
				tag := modelMac(in, added(n), nil)
				checkSeal(t, in, added(n), plain, tag[:])
			}
		}
		for _, aad := range [][]byte{nil, {}, added(0)} {
			checkSeal(t, in, aad, text(20), modelSealed(in, nil, text(20)))
		}
	}
}

// TestSealOfMany seals with each input, and opens again.
func TestSealOfMany(t *testing.T) {
	for _, in := range inputs() {
		for _, n := range []int{0, 1, 15, 16, 17, 300} {
			for _, m := range lengths() {
				checkSeal(t, in, added(n), text(m), modelSealed(in, added(n), text(m)))
			}
		}
	}
	in := different()
	for n := range 300 {
		checkSeal(t, in, added(n), text(299-n), modelSealed(in, added(n), text(299-n)))
		checkSeal(t, in, nil, make([]byte, n), modelSealed(in, nil, make([]byte, n)))
	}
	for _, n := range []int{4095, 4096, 4097, 10000, most - 17, most - 16, most - 15, most - 1, most} {
		checkSeal(t, in, added(n), text(n), modelSealed(in, added(n), text(n)))
		checkSeal(t, in, added(7), text(n), modelSealed(in, added(7), text(n)))
		checkSeal(t, in, added(n), text(7), modelSealed(in, added(n), text(7)))
	}
}

// sizes are pairs of lengths of which none is too long, and pairs of which one is,
// or both are.
func sizes() (may, tooLong [][2]int) {
	may = [][2]int{{most, 0}, {0, most}, {most, 1}, {1, most}, {most - 1, most}, {most, most - 1}, {most, most}}
	for _, n := range []int{most + 1, most + 2, most + 16, 2 * most, api.MaxData - 1, api.MaxData, api.MaxData + 1} {
		for _, m := range []int{0, 1, 16, most - 1, most, most + 1, n} {
			tooLong = append(tooLong, [2]int{n, m}, [2]int{m, n})
		}
	}
	return may, tooLong
}

func TestSealOfMost(t *testing.T) {
	if most != api.MaxData/4 {
		t.Fatalf("MaxData / 4 is %d", api.MaxData/4)
	}
	may, tooLong := sizes()
	for _, in := range edges() {
		for _, x := range may {
			checkSeal(t, in, added(x[0]), text(x[1]), modelSealed(in, added(x[0]), text(x[1])))
		}
		for _, x := range tooLong {
			got, err := seal(in, added(x[0]), text(x[1]))
			checkRefused(t, "Seal of what is too long", got, err, api.ErrLong)
		}
	}
}

// TestOpenOfMost opens what Seal does not make, but Mac gives a right tag to.
func TestOpenOfMost(t *testing.T) {
	may, tooLong := sizes()
	for _, in := range edges() {
		for _, x := range may {
			aad, plain := added(x[0]), text(x[1])
			checkOpen(t, in, aad, modelSealed(in, aad, plain), plain)
		}
		for _, x := range tooLong {
			aad := added(x[0])
			sealed := modelSealed(in, aad, text(x[1]))
			got, err := open(in, aad, sealed)
			checkRefused(t, "Open of what is too long", got, err, api.ErrLong)
			sealed[len(sealed)-1] ^= 1
			got, err = open(in, aad, sealed)
			checkRefused(t, "Open of what is too long, with a wrong tag", got, err, api.ErrLong)
		}
	}
}

// TestOpenOfShort opens what is shorter than a tag, with all added bytes, also
// with too many.
func TestOpenOfShort(t *testing.T) {
	for _, in := range edges() {
		for _, n := range []int{0, 1, 16, most, most + 1, api.MaxData, api.MaxData + 1} {
			aad := added(n)
			tag := modelMac(in, aad, nil)
			for m := range 16 {
				for _, sealed := range [][]byte{tag[:m], tag[16-m:], make([]byte, m), text(m)} {
					got, err := open(in, aad, sealed)
					checkRefused(t, "Open of less than a tag", got, err, api.ErrShort)
				}
			}
			got, err := open(in, aad, nil)
			checkRefused(t, "Open of nil", got, err, api.ErrShort)
		}
	}
}

// TestOpenOfATag opens 16 bytes: a right tag of nothing, and others.
func TestOpenOfATag(t *testing.T) {
	for _, in := range edges() {
		for _, n := range []int{0, 1, 16, 17, most} {
			tag := modelMac(in, added(n), nil)
			checkOpen(t, in, added(n), tag[:], nil)
			for _, wrong := range [][]byte{make([]byte, 16), bytes.Repeat([]byte{255}, 16), text(16)} {
				got, err := open(in, added(n), wrong)
				checkRefused(t, "Open of a wrong tag", got, err, api.ErrTag)
			}
		}
		tag := modelMac(in, added(most+1), nil)
		got, err := open(in, added(most+1), tag[:])
		checkRefused(t, "Open of a tag of too many added bytes", got, err, api.ErrLong)
	}
}

// TestOpenOfTurnedBits turns each bit of what is handed in, one at a time.
func TestOpenOfTurnedBits(t *testing.T) {
	for _, in := range edges() {
		for _, x := range [][2]int{{0, 0}, {1, 5}, {12, 114}, {16, 16}, {33, 31}} {
			aad, sealed := added(x[0]), modelSealed(in, added(x[0]), text(x[1]))
			for name, part := range map[string][]byte{"key": in.key[:], "nonce": in.nonce[:], "aad": aad, "sealed": sealed} {
				for i := range 8 * len(part) {
					part[i/8] ^= 1 << (i % 8)
					got, err := open(in, aad, sealed)
					part[i/8] ^= 1 << (i % 8)
					checkRefused(t, "Open with a bit of "+name+" turned", got, err, api.ErrTag)
				}
			}
			checkOpen(t, in, aad, sealed, text(x[1]))
		}
	}
}

// TestOpenOfTurnedBytes turns bytes at both ends and in the midst of the longest
// parts.
func TestOpenOfTurnedBytes(t *testing.T) {
	in := different()
	aad, sealed := added(most), modelSealed(in, added(most), text(most))
	for _, part := range [][]byte{aad, sealed} {
		for _, at := range []int{0, 1, 15, 16, 255, 256, most / 2, most - 17, most - 16, most - 1, len(part) - 16, len(part) - 1} {
			for _, by := range []byte{1, 128, 255} {
				part[at] ^= by
				got, err := open(in, aad, sealed)
				part[at] ^= by
				checkRefused(t, "Open with a byte turned", got, err, api.ErrTag)
			}
		}
	}
	checkOpen(t, in, aad, sealed, text(most))
}

// TestOpenOfOtherParts moves, adds and takes away whole bytes, and exchanges the
// parts.
func TestOpenOfOtherParts(t *testing.T) {
	for _, in := range edges() {
		aad, plain := added(20), text(48)
		sealed := modelSealed(in, aad, plain)
		cipher, tag := sealed[:48], sealed[48:]
		for name, x := range map[string][2][]byte{
			"no aad":                      {nil, sealed},
			"a byte 0 behind aad":         {slices.Concat(aad, []byte{0}), sealed},
			"aad and its padding":         {modelPadded(aad), sealed},
			"aad less its last byte":      {aad[:19], sealed},
			"aad less its first byte":     {aad[1:], sealed},
			"no cipher":                   {aad, tag},
			"no tag":                      {aad, cipher},
			"a byte 0 before the tag":     {aad, slices.Concat(cipher, []byte{0}, tag)},
			"a byte 0 behind the tag":     {aad, slices.Concat(sealed, []byte{0})},
			"the tag twice":               {aad, slices.Concat(sealed, tag)},
			"the tag before cipher":       {aad, slices.Concat(tag, cipher)},
			"cipher less its last byte":   {aad, slices.Concat(cipher[:47], tag)},
			"cipher less its first byte":  {aad, slices.Concat(cipher[1:], tag)},
			"the first block twice":       {aad, slices.Concat(cipher[:16], sealed)},
			"two blocks exchanged":        {aad, slices.Concat(cipher[16:32], cipher[:16], sealed[32:])},
			"aad and cipher exchanged":    {cipher, slices.Concat(aad, tag)},
			"cipher as aad":               {slices.Concat(aad, cipher), tag},
			"a block of cipher as aad":    {slices.Concat(modelPadded(aad), cipher[:16]), sealed[16:]},
			"plain bytes and their tag":   {aad, slices.Concat(plain, tag)},
			"sealed less its last byte":   {aad, sealed[:63]},
			"sealed less its first byte":  {aad, sealed[1:]},
			"another message's tag":       {aad, slices.Concat(cipher, modelSealed(in, aad, text(49))[49:])},
			"another message's cipher":    {aad, slices.Concat(modelSealed(in, aad, added(48))[:48], tag)},
			"another message's aad":       {added(21), sealed},
			"the same with its own nonce": {aad, modelSealed(input{in.key, [12]byte{5, 5}}, aad, plain)},
		} {
			got, err := open(in, x[0], x[1])
			checkRefused(t, "Open of "+name, got, err, api.ErrTag)
		}
		checkOpen(t, in, aad, sealed, plain)
	}
}

// TestOpenOfOtherTags has tags that are made in almost the same way.
func TestOpenOfOtherTags(t *testing.T) {
	for _, in := range edges() {
		aad, plain := added(20), text(40)
		sealed := modelSealed(in, aad, plain)
		cipher, right := sealed[:40], [16]byte(sealed[40:])
		turned := right
		slices.Reverse(turned[:])
		key, layout := modelKey(in), modelLayout(aad, cipher)
		parts, first, second := layout[:80], layout[80:88], layout[88:]
		inBits := binary.LittleEndian.AppendUint64(binary.LittleEndian.AppendUint64(nil, 8*20), 8*40)
		block, next := chacha.Block(in.key, 0, in.nonce), chacha.Block(in.key, 1, in.nonce)
		for name, tag := range map[string][16]byte{
			"turned round":                turned,
			"of the plain bytes":          modelMac(in, aad, plain),
			"of the parts exchanged":      modelMac(in, cipher, aad),
			"of cipher alone":             modelMac(in, nil, cipher),
			"of aad alone":                modelMac(in, aad, nil),
			"without padding":             poly.Tag(key, aad, cipher, first, second),
			"without lengths":             poly.Tag(key, parts),
			"with lengths in bits":        poly.Tag(key, parts, inBits),
			"with lengths exchanged":      poly.Tag(key, parts, second, first),
			"with the key that encrypts":  poly.Tag(in.key, layout),
			"with the block of counter 1": poly.Tag([32]byte(next[:32]), layout),
			"with the rest of the block":  poly.Tag([32]byte(block[32:]), layout),
			"of the key's second half":    [16]byte(key[16:]),
		} {
			got, err := open(in, aad, slices.Concat(cipher, tag[:]))
			checkRefused(t, "Open with a tag "+name, got, err, api.ErrTag)
		}
		checkOpen(t, in, aad, sealed, plain)
	}
}

// TestOpenOfDrawn opens bytes that nobody has sealed.
func TestOpenOfDrawn(t *testing.T) {
	draw := draws()
	for _, in := range inputs() {
		for range 200 {
			aad, sealed := make([]byte, draw()%40), make([]byte, 16+draw()%100)
			for i := range aad {
				aad[i] = byte(draw())
			}
			for i := range sealed {
				sealed[i] = byte(draw())
			}
			got, err := open(in, aad, sealed)
			checkRefused(t, "Open of drawn bytes", got, err, api.ErrTag)
		}
	}
}

// TestOpenInvertsSeal needs no model.
func TestOpenInvertsSeal(t *testing.T) {
	check := func(in input, aad, plain []byte) {
		t.Helper()
		sealed, err := seal(in, aad, plain)
		if err != api.OK || len(sealed) != len(plain)+16 {
			t.Fatalf("Seal of %d and %d bytes has %d bytes, %v", len(aad), len(plain), len(sealed), err)
		}
		checkOpen(t, in, aad, sealed, plain)
		again, err := seal(in, aad, plain)
		if err != api.OK || !bytes.Equal(again, sealed) {
			t.Errorf("the second Seal of %d and %d bytes with %x is another one", len(aad), len(plain), in)
		}
	}
	for _, in := range inputs() {
		for n := range 140 {
			check(in, added(139-n), text(n))
			check(in, nil, text(n))
		}
	}
	for _, n := range []int{255, 256, 257, 1000, 4095, 4096, 4097, 10000, most - 16, most - 1, most} {
		for _, m := range []int{0, 1, 16, most - n, most} {
			check(different(), added(m), text(n))
			check(different(), added(n), text(m))
		}
	}
}

// TestSealHides looks whether bytes 0 are sealed as the stream behind its first
// block, which makes the key of the tag and must not show.
func TestSealHides(t *testing.T) {
	for _, in := range inputs() {
		sealed, err := seal(in, nil, make([]byte, 1000))
		stream := chacha.Stream(in.key, 0, in.nonce, 1064)
		if err != api.OK || !bytes.Equal(sealed[:1000], stream[64:]) {
			t.Errorf("Seal of bytes 0 with %x is not the stream, %v", in, err)
		}
		if key := aead.Key(in.key, in.nonce); bytes.Contains(sealed, key[:16]) || bytes.Contains(sealed, key[16:]) {
			t.Errorf("Seal of bytes 0 with %x shows the key of its tag", in)
		}
	}
}

// TestArgumentsStay hands in lists with room behind them, and looks whether the
// lists or what lies behind them have changed, or change an answer later.
func TestArgumentsStay(t *testing.T) {
	in := different()
	for _, n := range []int{0, 1, 15, 16, 17, 300, most, most + 1} {
		for _, m := range []int{0, 1, 16, 33, 300, most, most + 1} {
			aad, plain := counted(n+60, 7, 3), counted(m+60, 11, 5)
			sealed := append(modelSealed(in, aad[:n], plain[:m]), plain...)
			wrong := bytes.Clone(sealed)
			wrong[m] ^= 1
			heldAad, heldPlain, heldSealed, heldWrong := bytes.Clone(aad), bytes.Clone(plain), bytes.Clone(sealed), bytes.Clone(wrong)

			mac(in, aad[:n], plain[:m])
			one, _ := seal(in, aad[:n], plain[:m])
			two, _ := open(in, aad[:n], sealed[:m+16])
			open(in, aad[:n], wrong[:m+16])
			open(in, aad[:n], sealed[:min(m, 15)])
			stay := func(when string) {
				t.Helper()
				if !bytes.Equal(aad, heldAad) || !bytes.Equal(plain, heldPlain) || !bytes.Equal(sealed, heldSealed) || !bytes.Equal(wrong, heldWrong) {
					t.Errorf("%d and %d bytes change %s", n, m, when)
				}
			}
			stay("with a call")

			heldOne, heldTwo := bytes.Clone(one), bytes.Clone(two)
			clear(aad)
			clear(plain)
			clear(sealed)
			if !bytes.Equal(one, heldOne) || !bytes.Equal(two, heldTwo) {
				t.Errorf("the answers of %d and %d bytes change with the bytes", n, m)
			}
			copy(aad, heldAad)
			copy(plain, heldPlain)
			copy(sealed, heldSealed)
			for _, answer := range [][]byte{one, two} {
				for i := range answer[:cap(answer)] {
					answer[:cap(answer)][i] = 99
				}
			}
			stay("with an answer")
		}
	}
}

// TestOneListTwice hands in the same bytes as both parts.
func TestOneListTwice(t *testing.T) {
	in := different()
	for _, n := range lengths() {
		b := text(n)
		checkMac(t, in, b, b)
		sealed := modelSealed(in, b, b)
		checkSeal(t, in, b, b, sealed)
		checkMac(t, in, sealed, sealed[:n])
	}
}

// TestRoomDoesNotCount has the same bytes with nothing behind them, and with
// different bytes behind them.
func TestRoomDoesNotCount(t *testing.T) {
	in := different()
	for _, n := range lengths() {
		for _, m := range lengths() {
			aad, plain := slices.Clip(bytes.Clone(added(n))), slices.Clip(bytes.Clone(text(m)))
			tag, sealed := mac(in, aad, plain), modelSealed(in, aad, plain)
			for _, behind := range []byte{0, 1, 255} {
				room := bytes.Repeat([]byte{behind}, 70)
				roomyAad, roomyPlain := slices.Concat(aad, room)[:n], slices.Concat(plain, room)[:m]
				if got := mac(in, roomyAad, roomyPlain); got != tag {
					t.Errorf("Mac of %d and %d bytes changes with what is behind them", n, m)
				}
				checkSeal(t, in, roomyAad, roomyPlain, sealed)
				checkOpen(t, in, roomyAad, slices.Concat(sealed, room)[:m+16], plain)
			}
		}
	}
}

// TestAnswersStandAlone asks twice: an answer does not hang on an earlier one, and
// behind it lies nothing.
func TestAnswersStandAlone(t *testing.T) {
	in := different()
	for _, n := range append(lengths(), 5000, most-1, most) {
		aad, plain := added(n), text(n)
		want := modelSealed(in, aad, plain)
		for range 2 {
			sealed, err := seal(in, aad, plain)
			back, err2 := open(in, aad, want)
			if err != api.OK || err2 != api.OK || !bytes.Equal(sealed, want) || !bytes.Equal(back, plain) {
				t.Errorf("Seal and Open of %d bytes are others: %v, %v", n, err, err2)
			}
			for _, answer := range [][]byte{sealed, back} {
				for _, b := range answer[len(answer):cap(answer)] {
					if b != 0 {
						t.Errorf("behind an answer of %d bytes lies %d", len(answer), b)
					}
				}
				clear(answer[:cap(answer)])
			}
		}
	}
}
