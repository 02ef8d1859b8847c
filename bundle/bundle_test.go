package bundle_test

import (
	"bytes"
	"crypto/sha256"
	"encoding/binary"
	"encoding/hex"
	"math"
	"math/big"
	"slices"
	"testing"

	"umbra/aead"
	"umbra/api"
	"umbra/asset"
	"umbra/bundle"
	"umbra/manifest"
)

const (
	least = math.MinInt
	most  = math.MaxInt
)

// kinds are those of assets.
var kinds = []int{1, 2, 3, 4}

// draws returns a function that draws numbers, the same ones in every run, of all
// sizes and of both signs.
func draws() func() uint64 {
	state := uint64(0x9e3779b97f4a7c15)
	next := func() uint64 {
		state ^= state << 13
		state ^= state >> 7
		state ^= state << 17
		return state
	}
	return func() uint64 { return uint64(int64(next()) >> (next() % 64)) }
}

// lock is what a bundle is sealed with.
type lock struct {
	key  [32]byte
	base [8]byte
}

// different has bytes that are all different.
func different() lock {
	l := lock{base: [8]byte{0x91, 0x82, 0x73, 0x64, 0x55, 0x46, 0x37, 0x28}}
	for i := range l.key {
		l.key[i] = byte(7*i + 1)
	}
	return l
}

// locks returns several, with zeros and with all ones among them.
func locks() []lock {
	ones := lock{}
	for i := range ones.key {
		ones.key[i] = 255
	}
	ones.base = [8]byte(bytes.Repeat([]byte{255}, 8))
	back := different()
	slices.Reverse(back.key[:])
	slices.Reverse(back.base[:])
	return []lock{different(), {}, ones, back}
}

// bases returns those of which all bytes are different.
func bases() [][8]byte {
	return [][8]byte{
		{0x91, 0x82, 0x73, 0x64, 0x55, 0x46, 0x37, 0x28}, {1, 2, 3, 4, 5, 6, 7, 8}, {255, 254, 253, 252, 251, 250, 249, 0},
	}
}

// meshOf returns a mesh with so many vertices and triangles, and without a fault.
func meshOf(verts, tris int) api.Asset {
	a := api.Asset{Kind: api.AsMesh}
	for i := range verts {
		a.Mesh.Verts = append(a.Mesh.Verts, api.Point{X: 130*i - 4096, Y: 4096 - 127*i, Z: i*i - 2000})
		a.Mesh.Uvs = append(a.Mesh.Uvs, [2]int{1021 * i, 65535 - 1009*i})
	}
	for i := range tris {
		a.Mesh.Tris = append(a.Mesh.Tris, [3]int{i % verts, (i + 1) % verts, (i + 2) % verts})
	}
	return a
}

// textureOf returns a texture with that side, and without a fault.
func textureOf(side int) api.Asset {
	a := api.Asset{Kind: api.AsTexture, Texture: api.Texture{Side: side, Texels: make([][3]int, side*side)}}
	for i := range a.Texture.Texels {
		for color := range 3 {
			a.Texture.Texels[i][color] = (3*i + color) * 37 % 256
		}
	}
	return a
}

func material() api.Asset {
	return api.Asset{Kind: api.AsMaterial, Material: api.Material{Kind: 2, Color: [3]int{0x0103, 0xf4f5, 0x8607}, Rough: 0x7809}}
}

func light() api.Asset {
	return api.Asset{Kind: api.AsLight, Light: api.Light{
		Kind:  1,
		Color: [3]int{0x0a0b0c, 0x0fedcb, 0x010203},
		At:    api.Point{X: 0x0104, Y: -2, Z: 0x0e0f},
		U:     api.Point{X: -4096, Y: 0x0506, Z: -0x0708},
		V:     api.Point{X: 4095, Y: -0x0d11, Z: 0x0213},
	}}
}

// sample is an asset, and how many bytes and chunks it has.
type sample struct {
	a            api.Asset
	size, chunks int
}

// samples returns assets of all kinds: of less than a chunk, of exactly one, two and
// three, of one byte more, and of as many as there may be. A texture has none that is
// exactly so many chunks; that of side 16 has three and one byte more.
func samples() []sample {
	return []sample{
		{meshOf(3, 1), 35, 1}, {meshOf(20, 17), 253, 1}, {meshOf(24, 4), 254, 1}, {meshOf(22, 11), 255, 1},
		{meshOf(20, 18), 256, 1}, {meshOf(24, 5), 257, 2}, {meshOf(25, 2), 258, 2},
		{meshOf(30, 64), 494, 2}, {meshOf(33, 60), 512, 2}, {meshOf(34, 57), 513, 3},
		{meshOf(61, 52), 768, 3}, {meshOf(62, 49), 769, 4}, {meshOf(64, 64), 834, 4},
		{textureOf(1), 4, 1}, {textureOf(2), 13, 1}, {textureOf(4), 49, 1}, {textureOf(8), 193, 1}, {textureOf(16), 769, 4},
		{material(), 9, 1}, {api.Asset{Kind: api.AsMaterial}, 9, 1},
		{light(), 31, 1}, {api.Asset{Kind: api.AsLight}, 31, 1}, {api.Asset{Kind: api.AsLight, Light: api.Light{Kind: 2, Color: [3]int{1, 2, 3}}}, 31, 1},
	}
}

// few returns one of each kind, with the mesh of two chunks and the texture of four.
func few() []sample {
	return []sample{{meshOf(24, 5), 257, 2}, {textureOf(16), 769, 4}, {material(), 9, 1}, {light(), 31, 1}}
}

// told returns a manifest without a fault, but of no size.
func told(kind int) api.Manifest {
	return api.Manifest{
		Id: 0x0102030405060708, Kind: kind, Label: 0x090a0b0c, Masks: [8]uint8{0, 1, 2, 4, 8, 15, 3, 5},
		From: 0x11121314, To: 0xe1e2e3e4,
	}
}

// whole returns told of a sample, with its size and its chunks.
func whole(s sample) api.Manifest {
	m := told(s.a.Kind)
	m.Size, m.Chunks = s.size, s.chunks
	return m
}

// layout returns the bytes of a manifest, each field at its place, cut to its width.
func layout(m api.Manifest) []byte {
	b := make([]byte, 35)
	binary.LittleEndian.PutUint64(b[0:], m.Id)
	b[8] = byte(m.Kind)
	binary.LittleEndian.PutUint32(b[9:], m.Label)
	copy(b[13:21], m.Masks[:])
	binary.LittleEndian.PutUint32(b[21:], m.From)
	binary.LittleEndian.PutUint32(b[25:], m.To)
	binary.LittleEndian.PutUint32(b[29:], uint32(m.Size))
	binary.LittleEndian.PutUint16(b[33:], uint16(m.Chunks))
	return b
}

// encoded returns the bytes of an asset without a fault.
func encoded(a api.Asset) []byte {
	b, e := asset.Encode(a)
	if e != api.OK {
		panic(e)
	}
	return b
}

// modelNonce takes n modulo 2^32 as a number without bounds.
func modelNonce(base [8]byte, n int) [12]byte {
	low := new(big.Int).Mod(big.NewInt(int64(n)), big.NewInt(1<<32)).Uint64()
	nonce := [12]byte{}
	for i := range nonce {
		if i < 8 {
			nonce[i] = base[i]
			continue
		}
		nonce[i] = byte(low % 256)
		low /= 256
	}
	return nonce
}

// seal seals by aead alone, with the nonce of n.
func (l lock) seal(n int, aad, plain []byte) []byte {
	b, e := aead.Seal(l.key, modelNonce(l.base, n), aad, plain)
	if e != api.OK {
		panic(e)
	}
	return b
}

// head returns what stands before the chunks, with any bytes as those of the manifest.
func (l lock) head(described []byte) []byte {
	b := slices.Concat([]byte{85, 77, 66, 49}, l.base[:], described)
	return slices.Concat(b, l.seal(0, b, nil))
}

// tagOf returns the manifest's tag.
func tagOf(b []byte) []byte { return b[47:63] }

// numbers returns the four bytes before a chunk.
func numbers(i, n int) []byte { return []byte{byte(i), byte(i >> 8), byte(n), byte(n >> 8)} }

// chunk returns a chunk that tells i and n, sealed with the nonce that i asks for, for
// the bundle that begins with head.
func (l lock) chunk(head []byte, i, n int, plain []byte) []byte {
	return slices.Concat(numbers(i, n), l.seal(i+1, slices.Concat(numbers(i, n), tagOf(head)), plain))
}

// body returns all chunks of plain bytes.
func (l lock) body(head, plain []byte) [][]byte {
	var all [][]byte
	for i := 0; 256*i < len(plain); i++ {
		piece := plain[256*i : min(256*i+256, len(plain))]
		all = append(all, l.chunk(head, i, len(piece), piece))
	}
	return all
}

// bundle returns the bundle of any plain bytes, with any bytes as those of the manifest.
func (l lock) bundle(described, plain []byte) []byte {
	head := l.head(described)
	return slices.Concat(head, slices.Concat(l.body(head, plain)...))
}

// of returns the bundle of a sample.
func (l lock) of(s sample) []byte { return l.bundle(layout(whole(s)), encoded(s.a)) }

// modelSeal returns what Seal promises.
func modelSeal(l lock, m api.Manifest, a api.Asset) ([]byte, api.Errno) {
	if e := asset.Check(a); e != api.OK {
		return nil, e
	}
	if m.Kind != a.Kind {
		return nil, api.ErrKind
	}
	plain := encoded(a)
	m.Size, m.Chunks = len(plain), (len(plain)+255)/256
	if e := manifest.Check(m); e != api.OK {
		return nil, e
	}
	return l.bundle(layout(m), plain), api.OK
}

// clone returns a copy that shares nothing.
func clone(a api.Asset) api.Asset {
	a.Mesh.Verts = slices.Clone(a.Mesh.Verts)
	a.Mesh.Uvs = slices.Clone(a.Mesh.Uvs)
	a.Mesh.Tris = slices.Clone(a.Mesh.Tris)
	a.Texture.Texels = slices.Clone(a.Texture.Texels)
	return a
}

// isZero tells whether a is the asset beside an error.
func isZero(a api.Asset) bool { return asset.Same(a, api.Asset{}) }

// checkSeal holds Seal against what is wanted.
func checkSeal(t *testing.T, what string, l lock, m api.Manifest, a api.Asset, want []byte, err api.Errno) {
	t.Helper()
	kept := clone(a)
	b, e := bundle.Seal(l.key, l.base, m, a)
	if e != err || !bytes.Equal(b, want) {
		t.Errorf("Seal of %s = %x, %v, want %x, %v", what, b, e, want, err)
	}
	if err != api.OK && len(b) != 0 {
		t.Errorf("Seal of %s tells %d bytes beside %v", what, len(b), e)
	}
	if !asset.Same(a, kept) {
		t.Errorf("Seal of %s changes the asset", what)
	}
}

// expectSeal holds Seal against an error, and against the model.
func expectSeal(t *testing.T, what string, m api.Manifest, a api.Asset, err api.Errno) {
	t.Helper()
	l := different()
	want, e := modelSeal(l, m, a)
	if e != err {
		t.Errorf("the model's error of %s is %v, want %v", what, e, err)
	}
	checkSeal(t, what, l, m, a, want, err)
}

func TestNonce(t *testing.T) {
	for _, x := range []struct {
		n    int
		want [4]byte
	}{
		{0, [4]byte{0, 0, 0, 0}},
		{1, [4]byte{1, 0, 0, 0}},
		{2, [4]byte{2, 0, 0, 0}},
		{255, [4]byte{255, 0, 0, 0}},
		{256, [4]byte{0, 1, 0, 0}},
		{257, [4]byte{1, 1, 0, 0}},
		{65535, [4]byte{255, 255, 0, 0}},
		{65536, [4]byte{0, 0, 1, 0}},
		{0x01020304, [4]byte{4, 3, 2, 1}},
		{1<<24 - 1, [4]byte{255, 255, 255, 0}},
		{1 << 24, [4]byte{0, 0, 0, 1}},
		{1<<31 - 1, [4]byte{255, 255, 255, 127}},
		{1 << 31, [4]byte{0, 0, 0, 128}},
		{1<<32 - 2, [4]byte{254, 255, 255, 255}},
		{1<<32 - 1, [4]byte{255, 255, 255, 255}},
		{1 << 32, [4]byte{0, 0, 0, 0}},
		{1<<32 + 1, [4]byte{1, 0, 0, 0}},
		{1<<40 + 256, [4]byte{0, 1, 0, 0}},
		{0x0a0b0c0d01020304, [4]byte{4, 3, 2, 1}},
		{-1, [4]byte{255, 255, 255, 255}},
		{-2, [4]byte{254, 255, 255, 255}},
		{-255, [4]byte{1, 255, 255, 255}},
		{-256, [4]byte{0, 255, 255, 255}},
		{-65536, [4]byte{0, 0, 255, 255}},
		{-1 << 31, [4]byte{0, 0, 0, 128}},
		{-1 << 32, [4]byte{0, 0, 0, 0}},
		{-1<<32 - 1, [4]byte{255, 255, 255, 255}},
		{-1<<32 + 1, [4]byte{1, 0, 0, 0}},
		{least, [4]byte{0, 0, 0, 0}},
		{least + 1, [4]byte{1, 0, 0, 0}},
		{most, [4]byte{255, 255, 255, 255}},
		{most - 1, [4]byte{254, 255, 255, 255}},
	} {
		for _, base := range append(bases(), [8]byte{}) {
			want := [12]byte(slices.Concat(base[:], x.want[:]))
			if got := bundle.Nonce(base, x.n); got != want {
				t.Errorf("Nonce(%v, %d) = %v, want %v", base, x.n, got, want)
			}
		}
	}
}

func TestNonceOfDrawn(t *testing.T) {
	draw := draws()
	for range 20000 {
		base, n := [8]byte{}, int(draw())
		binary.LittleEndian.PutUint64(base[:], draw())
		if got, want := bundle.Nonce(base, n), modelNonce(base, n); got != want {
			t.Fatalf("Nonce(%v, %d) = %v, want %v", base, n, got, want)
		}
	}
}

// TestNoncesDiffer has no two equal ones among those of a bundle.
func TestNoncesDiffer(t *testing.T) {
	for _, base := range bases() {
		seen := map[[12]byte]int{}
		for n := range 70000 {
			nonce := bundle.Nonce(base, n)
			if other, ok := seen[nonce]; ok {
				t.Fatalf("Nonce of %d is that of %d", n, other)
			}
			seen[nonce] = n
		}
	}
}

// TestSealVectors has bundles that were made without this program: by the package
// cryptography of Python, and the one of the material by OpenSSL as well.
func TestSealVectors(t *testing.T) {
	l := different()
	for _, x := range []struct {
		name string
		a    api.Asset
		want string
	}{
		{"the material", material(), "554d4231" + "9182736455463728" +
			"0807060504030201" + "03" + "0c0b0a09" + "00010204080f0305" + "14131211" + "e4e3e2e1" + "09000000" + "0100" +
			"3285a0a1350997d6ed712cd4aad78e67" + "0000" + "0900" + "986da414472e5002ec" + "a8dc760794c74d6a77c6a9b5f9cb4f76"},
		{"the light", light(), "554d4231" + "9182736455463728" +
			"0807060504030201" + "04" + "0c0b0a09" + "00010204080f0305" + "14131211" + "e4e3e2e1" + "1f000000" + "0100" +
			"e1d6efdc8d55d7fc827ba927ba58f91e" + "0000" + "1f00" +
			"9b62aeebb3e23b04946108f085c55b2fa889e0145a2645099122d158a2efdf" + "be8fafebf21c8043efef14aaaee414a4"},
		{"the texture of side 2", textureOf(2), "554d4231" + "9182736455463728" +
			"0807060504030201" + "02" + "0c0b0a09" + "00010204080f0305" + "14131211" + "e4e3e2e1" + "0d000000" + "0100" +
			"81f5ada1eed7ba5e72a2cc441eb66934" + "0000" + "0d00" + "986e80abdcbd6fd5974a478312" + "9855a893d378d28b15ae4f7bf6fc3a08"},
	} {
		want, _ := hex.DecodeString(x.want)
		checkSeal(t, x.name, l, told(x.a.Kind), x.a, want, api.OK)
		expectOpen(t, x.name, l.key, want, api.OK)
	}
	for _, x := range []struct {
		name      string
		a         api.Asset
		size      int
		sumOfThem string
	}{
		{"a mesh of 35 bytes", meshOf(3, 1), 118, "3f3c0c310d7630369ea32180a917048ed186d814e1626ae75599450fc1e49f59"},
		{"a mesh of 256 bytes", meshOf(20, 18), 339, "6d4a004e283bfca22d094b2135377d2ef93488e425fe6b46d49e74bb2b1a7292"},
		{"a mesh of 257 bytes", meshOf(24, 5), 360, "946d80259c1470b21f93f8f6e13bf93c2b735e44dfa0a4886a36714eb0db8656"},
		{"a mesh of 512 bytes", meshOf(33, 60), 615, "743429e93e0080ee4bf4565ecd4d83b37529e0467b36886c751aca667c8231f2"},
		{"a mesh of 834 bytes", meshOf(64, 64), 977, "8b3af2e7dc0b74f489c8be17d280e7c00d034bac61add443df199ebee0e2a7ab"},
		{"a texture of side 8", textureOf(8), 276, "402750f361cba3640c4681118645bc23963359a686f59fae4c5e33e4c20ef7d0"},
		{"a texture of side 16", textureOf(16), 912, "fd08fb2f07a5173d4c2770ef48ef0a64dfb9196f6f22a0dac90be42b541eeaf3"},
	} {
		b, e := bundle.Seal(l.key, l.base, told(x.a.Kind), x.a)
		sum := sha256.Sum256(b)
		if e != api.OK || len(b) != x.size || hex.EncodeToString(sum[:]) != x.sumOfThem {
			t.Errorf("Seal of %s has %d bytes with the sum %x, %v", x.name, len(b), sum, e)
		}
	}
}

// TestSealOfAMaterial is the chapter's example.
func TestSealOfAMaterial(t *testing.T) {
	for _, l := range locks() {
		for kind := range 5 {
			a := api.Asset{Kind: api.AsMaterial, Material: api.Material{Kind: kind}}
			b, e := bundle.Seal(l.key, l.base, told(api.AsMaterial), a)
			if e != api.OK || len(b) != 92 {
				t.Errorf("Seal of a material has %d bytes, %v", len(b), e)
			}
		}
	}
}

// TestSealLayout looks where each part of a bundle stands.
func TestSealLayout(t *testing.T) {
	if manifest.Length() != 35 || api.ChunkSize != 256 {
		t.Fatalf("a manifest has %d bytes, a chunk %d", manifest.Length(), api.ChunkSize)
	}
	for _, l := range locks() {
		for _, s := range samples() {
			plain := encoded(s.a)
			if len(plain) != s.size {
				t.Fatalf("a sample has %d bytes, not %d", len(plain), s.size)
			}
			b, e := bundle.Seal(l.key, l.base, told(s.a.Kind), s.a)
			if e != api.OK || len(b) != 63+s.size+20*s.chunks {
				t.Fatalf("Seal of %d bytes has %d, %v", s.size, len(b), e)
			}
			part := func(what string, from, to int, want []byte) {
				t.Helper()
				if !bytes.Equal(b[from:to], want) {
					t.Errorf("Seal of %d bytes of kind %d: %s is %x, want %x", s.size, s.a.Kind, what, b[from:to], want)
				}
			}
			part("the beginning", 0, 4, []byte("UMB1"))
			part("the base", 4, 12, l.base[:])
			part("the manifest", 12, 47, layout(whole(s)))
			part("its tag", 47, 63, l.seal(0, b[:47], nil))
			for i := range s.chunks {
				at, n := 63+276*i, min(256, s.size-256*i)
				part("an index", at, at+2, []byte{byte(i), 0})
				part("a number of bytes", at+2, at+4, []byte{byte(n), byte(n >> 8)})
				sealed := l.seal(i+1, slices.Concat(b[at:at+4], b[47:63]), plain[256*i:256*i+n])
				part("what is sealed", at+4, at+4+n, sealed[:n])
				part("a tag", at+4+n, at+20+n, sealed[n:])
				if i+1 == s.chunks && at+20+n != len(b) {
					t.Errorf("Seal of %d bytes has %d bytes behind its chunks", s.size, len(b)-at-20-n)
				}
			}
			checkSeal(t, "a sample", l, told(s.a.Kind), s.a, l.of(s), api.OK)
		}
	}
}

// TestSealOfManyChunks has meshes of all numbers of vertices and triangles that are at
// or beside the end of a chunk.
func TestSealOfManyChunks(t *testing.T) {
	l := different()
	for verts := 3; verts <= 64; verts++ {
		for tris := 1; tris <= 64; tris++ {
			if size := 2 + 10*verts + 3*tris; (size+2)%256 < 5 {
				s := sample{meshOf(verts, tris), size, (size + 255) / 256}
				checkSeal(t, "a mesh", l, told(api.AsMesh), s.a, l.of(s), api.OK)
				expectOpen(t, "a mesh", l.key, l.of(s), api.OK)
			}
		}
	}
}

// TestSealTakesItsOwnSize hands in manifests with any Size and Chunks.
func TestSealTakesItsOwnSize(t *testing.T) {
	l := different()
	odd := []int{0, 1, -1, 2, 4, 9, 31, 64, 65, 255, 256, 257, 1024, 1025, 2048, 2049, 65536, 1 << 32, -1 << 32, least, most}
	for _, s := range samples() {
		want := l.of(s)
		for _, n := range odd {
			m := whole(s)
			m.Size = n
			checkSeal(t, "another size", l, m, s.a, want, api.OK)
			m.Chunks = n
			checkSeal(t, "another size and number of chunks", l, m, s.a, want, api.OK)
			m.Size = s.size
			checkSeal(t, "another number of chunks", l, m, s.a, want, api.OK)
		}
	}
	// Beside another fault they do not matter either.
	for _, n := range odd {
		m := told(api.AsMesh)
		m.Size, m.Chunks, m.Masks[3] = n, n, 16
		expectSeal(t, "a size and a mask", m, meshOf(3, 1), api.ErrForm)
		m.Kind = api.AsTexture
		expectSeal(t, "a size and a kind", m, meshOf(3, 1), api.ErrKind)
	}
}

// TestSealOfManifests has each field of a manifest at its edges.
func TestSealOfManifests(t *testing.T) {
	for _, s := range few() {
		try := func(change func(m *api.Manifest), want api.Errno) {
			t.Helper()
			m := told(s.a.Kind)
			change(&m)
			expectSeal(t, "a manifest", m, s.a, want)
		}
		for _, n := range []uint64{0, 1, 255, 256, 1 << 32, 1<<63 - 1, 1 << 63, math.MaxUint64} {
			try(func(m *api.Manifest) { m.Id = n }, api.OK)
		}
		for _, n := range []uint32{0, 1, 255, 256, 1 << 31, math.MaxUint32} {
			try(func(m *api.Manifest) { m.Label = n }, api.OK)
			try(func(m *api.Manifest) { m.From, m.To = n, n }, api.OK)
			try(func(m *api.Manifest) { m.From, m.To = 0, n }, api.OK)
			try(func(m *api.Manifest) { m.From, m.To = n, math.MaxUint32 }, api.OK)
			if n > 0 {
				try(func(m *api.Manifest) { m.From, m.To = n, n-1 }, api.ErrForm)
				try(func(m *api.Manifest) { m.From, m.To = n, 0 }, api.ErrForm)
			}
		}
		for layer := range 8 {
			for mask := range 256 {
				want := api.OK
				if mask > 15 {
					want = api.ErrForm
				}
				try(func(m *api.Manifest) { m.Masks[layer] = uint8(mask) }, want)
			}
		}
	}
}

// fault is an asset that asset.Encode refuses.
type fault struct {
	what string
	a    api.Asset
	want api.Errno
}

// assetFaults returns such assets of each kind, with each error that there is.
func assetFaults() []fault {
	var list []fault
	in := func(a api.Asset, what string, want api.Errno, change func(a *api.Asset)) {
		change(&a)
		list = append(list, fault{what, a, want})
	}
	in(meshOf(3, 1), "65 vertices", api.ErrLong, func(a *api.Asset) { a.Mesh.Verts = make([]api.Point, 65) })
	in(meshOf(3, 1), "65 triangles", api.ErrLong, func(a *api.Asset) { a.Mesh.Tris = make([][3]int, 65) })
	in(meshOf(3, 1), "no triangles", api.ErrForm, func(a *api.Asset) { a.Mesh.Tris = nil })
	in(meshOf(3, 1), "one of Uvs too few", api.ErrForm, func(a *api.Asset) { a.Mesh.Uvs = a.Mesh.Uvs[:2] })
	in(meshOf(3, 1), "a vertex off the grid", api.ErrGrid, func(a *api.Asset) { a.Mesh.Verts[2].Z = 4097 })
	in(meshOf(3, 1), "equal corners", api.ErrForm, func(a *api.Asset) { a.Mesh.Tris[0] = [3]int{1, 1, 0} })
	in(meshOf(3, 1), "a mesh with a material", api.ErrForm, func(a *api.Asset) { a.Material.Rough = 1 })
	in(textureOf(2), "a side of 3", api.ErrForm, func(a *api.Asset) { a.Texture = api.Texture{Side: 3, Texels: make([][3]int, 9)} })
	in(textureOf(2), "a side of 32", api.ErrForm, func(a *api.Asset) { a.Texture = api.Texture{Side: 32, Texels: make([][3]int, 1024)} })
	in(textureOf(2), "a texel out of bounds", api.ErrForm, func(a *api.Asset) { a.Texture.Texels[3][2] = 256 })
	in(textureOf(2), "a texture with a mesh", api.ErrForm, func(a *api.Asset) { a.Mesh = meshOf(3, 1).Mesh })
	in(material(), "a rough material", api.ErrForm, func(a *api.Asset) { a.Material.Rough = 65536 })
	in(material(), "no kind of a material", api.ErrForm, func(a *api.Asset) { a.Material.Kind = 5 })
	in(material(), "a material with a light", api.ErrForm, func(a *api.Asset) { a.Light.Kind = 2 })
	in(light(), "a bright light", api.ErrForm, func(a *api.Asset) { a.Light.Color[2] = 1<<20 + 1 })
	in(light(), "a light off the grid", api.ErrGrid, func(a *api.Asset) { a.Light.At.X = -4097 })
	in(light(), "a light with a texture", api.ErrForm, func(a *api.Asset) { a.Texture.Side = 1 })
	for _, kind := range []int{0, 5, -1, 257, 260, 1<<32 + 1, least, most} {
		in(light(), "no kind", api.ErrKind, func(a *api.Asset) { a.Kind = kind })
		in(api.Asset{}, "nothing but no kind", api.ErrKind, func(a *api.Asset) { a.Kind = kind })
	}
	return list
}

// manifestFaults returns manifests of a kind that manifest.Encode refuses.
func manifestFaults(kind int) []api.Manifest {
	var list []api.Manifest
	in := func(change func(m *api.Manifest)) {
		m := told(kind)
		change(&m)
		list = append(list, m)
	}
	for layer := range 8 {
		in(func(m *api.Manifest) { m.Masks[layer] = 16 })
		in(func(m *api.Manifest) { m.Masks[layer] = 255 })
	}
	in(func(m *api.Manifest) { m.From = m.To + 1 })
	in(func(m *api.Manifest) { m.From, m.To = 1, 0 })
	in(func(m *api.Manifest) { m.From, m.To, m.Masks[0] = math.MaxUint32, 0, 128 })
	return list
}

// otherKinds are those that are not kind, or no kind at all.
func otherKinds(kind int) []int {
	all := []int{1, 2, 3, 4, 0, 5, -1, -kind, kind + 4, kind + 256, kind - 256, kind + 65536, kind + 1<<32, kind - 1<<32, least + kind, most, least}
	return slices.DeleteFunc(all, func(other int) bool { return other == kind })
}

// TestSealOrder has faults of the asset, of the manifest's kind, and of the rest of the
// manifest, alone and together: the first one is told.
func TestSealOrder(t *testing.T) {
	for _, x := range assetFaults() {
		expectSeal(t, x.what, told(x.a.Kind), x.a, x.want)
		for _, kind := range otherKinds(x.a.Kind) {
			expectSeal(t, x.what+", another kind", told(kind), x.a, x.want)
			for _, m := range manifestFaults(kind) {
				expectSeal(t, x.what+", another kind, and a bad manifest", m, x.a, x.want)
			}
		}
		for _, m := range manifestFaults(x.a.Kind) {
			expectSeal(t, x.what+", and a bad manifest", m, x.a, x.want)
		}
	}
	for _, s := range samples() {
		expectSeal(t, "no fault", told(s.a.Kind), s.a, api.OK)
		expectSeal(t, "the zero manifest", api.Manifest{}, s.a, api.ErrKind)
		expectSeal(t, "nothing but a kind", api.Manifest{Kind: s.a.Kind}, s.a, api.OK)
		for _, kind := range otherKinds(s.a.Kind) {
			expectSeal(t, "another kind", told(kind), s.a, api.ErrKind)
			for _, m := range manifestFaults(kind) {
				expectSeal(t, "another kind, and a bad manifest", m, s.a, api.ErrKind)
			}
		}
		for _, m := range manifestFaults(s.a.Kind) {
			expectSeal(t, "a bad manifest", m, s.a, api.ErrForm)
		}
	}
	expectSeal(t, "nothing", api.Manifest{}, api.Asset{}, api.ErrKind)
	expectSeal(t, "no asset", told(api.AsMesh), api.Asset{}, api.ErrKind)
}

// drawnAsset returns an asset of any kind, mostly without a fault.
func drawnAsset(draw func() uint64) api.Asset {
	a := api.Asset{}
	switch draw() % 4 {
	case 0:
		a = meshOf(3+int(draw()%62), 1+int(draw()%64))
		a.Mesh.Verts[0].X = int(draw() % 4100)
		a.Mesh.Uvs[1][1] = int(draw() % 65540)
	case 1:
		a = textureOf(1 << (draw() % 5))
		a.Texture.Texels[0][2] = int(draw() % 257)
	case 2:
		a = material()
		a.Material.Color[1] = int(draw() % 65540)
		a.Material.Kind = int(draw() % 6)
	case 3:
		a = light()
		a.Light.Kind = int(draw() % 4)
		a.Light.Color[2] = int(draw() % (1<<20 + 3))
	}
	if draw()%20 == 0 {
		a.Kind = int(draw() % 6)
	}
	return a
}

// drawnManifest returns a manifest, mostly of that kind and without a fault.
func drawnManifest(draw func() uint64, kind int) api.Manifest {
	m := api.Manifest{Id: draw(), Kind: kind, Label: uint32(draw()), From: uint32(draw()), To: uint32(draw()), Size: int(draw()), Chunks: int(draw())}
	for i := range m.Masks {
		m.Masks[i] = uint8(draw() % 16)
	}
	if draw()%20 == 0 {
		m.Masks[draw()%8] = uint8(draw())
	}
	if m.From > m.To && draw()%20 != 0 {
		m.From, m.To = m.To, m.From
	}
	if draw()%20 == 0 {
		m.Kind = int(draw() % 6)
	}
	return m
}

// drawnLock returns a key and a base.
func drawnLock(draw func() uint64) lock {
	l := lock{}
	binary.LittleEndian.PutUint64(l.base[:], draw())
	for i := range 4 {
		binary.LittleEndian.PutUint64(l.key[8*i:], draw())
	}
	return l
}

func TestSealOfDrawn(t *testing.T) {
	draw := draws()
	sealed := 0
	for range 2000 {
		l, a := drawnLock(draw), drawnAsset(draw)
		m := drawnManifest(draw, a.Kind)
		want, e := modelSeal(l, m, a)
		checkSeal(t, "drawn ones", l, m, a, want, e)
		if e == api.OK {
			sealed++
			expectOpen(t, "drawn ones", l.key, want, api.OK)
		}
	}
	if sealed < 1000 || sealed > 1990 {
		t.Errorf("%d of the drawn ones have no fault", sealed)
	}
}

// TestSealHides looks whether a bundle shows the bytes of the asset.
func TestSealHides(t *testing.T) {
	l := different()
	for _, s := range samples() {
		b, _ := bundle.Seal(l.key, l.base, told(s.a.Kind), s.a)
		plain := encoded(s.a)
		for at := 0; at+8 <= len(plain); at++ {
			if bytes.Contains(b[63:], plain[at:at+8]) {
				t.Errorf("the bundle of %d bytes shows those from %d on", s.size, at)
			}
		}
		if bytes.Contains(b, l.key[:8]) {
			t.Errorf("the bundle of %d bytes shows the key", s.size)
		}
	}
}

// roomy returns a with room behind each of its lists, in which other elements lie.
func roomy(a api.Asset) api.Asset {
	a.Mesh.Verts = append(slices.Clone(a.Mesh.Verts), api.Point{X: 9, Y: 9, Z: 9}, api.Point{X: 8})[:len(a.Mesh.Verts)]
	a.Mesh.Uvs = append(slices.Clone(a.Mesh.Uvs), [2]int{9, 9}, [2]int{8})[:len(a.Mesh.Uvs)]
	a.Mesh.Tris = append(slices.Clone(a.Mesh.Tris), [3]int{9, 9, 9}, [3]int{8})[:len(a.Mesh.Tris)]
	a.Texture.Texels = append(slices.Clone(a.Texture.Texels), [3]int{9, 9, 9}, [3]int{8})[:len(a.Texture.Texels)]
	return a
}

// spoil changes all elements of a's lists.
func spoil(a api.Asset) {
	for i := range a.Mesh.Verts {
		a.Mesh.Verts[i].X ^= 1
	}
	for i := range a.Mesh.Uvs {
		a.Mesh.Uvs[i][1] ^= 1
	}
	for i := range a.Mesh.Tris {
		a.Mesh.Tris[i] = [3]int{2, 1, 0}
	}
	for i := range a.Texture.Texels {
		a.Texture.Texels[i][0] ^= 1
	}
}

// TestSealLeavesItsArguments looks whether the asset, or what lies behind its lists, has
// changed, and whether the bundle changes with it afterwards.
func TestSealLeavesItsArguments(t *testing.T) {
	l := different()
	for _, s := range samples() {
		a := roomy(s.a)
		b, e := bundle.Seal(l.key, l.base, told(a.Kind), a)
		if e != api.OK || !bytes.Equal(b, l.of(s)) {
			t.Errorf("Seal of %d bytes with room behind them is another one, %v", s.size, e)
		}
		behind := roomy(s.a)
		n := len(a.Mesh.Verts) + 2
		same := slices.Equal(a.Mesh.Verts[:n], behind.Mesh.Verts[:n])
		n = len(a.Mesh.Uvs) + 2
		same = same && slices.Equal(a.Mesh.Uvs[:n], behind.Mesh.Uvs[:n])
		n = len(a.Mesh.Tris) + 2
		same = same && slices.Equal(a.Mesh.Tris[:n], behind.Mesh.Tris[:n])
		n = len(a.Texture.Texels) + 2
		same = same && slices.Equal(a.Texture.Texels[:n], behind.Texture.Texels[:n])
		if !same || !asset.Same(a, s.a) {
			t.Errorf("Seal of %d bytes changes what it is given", s.size)
		}
		spoil(a)
		if !bytes.Equal(b, l.of(s)) {
			t.Errorf("the bundle of %d bytes changes with the asset", s.size)
		}
		for _, x := range b[len(b):cap(b)] {
			if x != 0 {
				t.Errorf("behind the bundle of %d bytes lies %d", s.size, x)
			}
		}
	}
}

// TestSealsStandAlone asks twice: an answer does not hang on an earlier one.
func TestSealsStandAlone(t *testing.T) {
	for _, s := range samples() {
		l := different()
		one, _ := bundle.Seal(l.key, l.base, told(s.a.Kind), s.a)
		clear(one[:cap(one)])
		bundle.Seal(lock{}.key, lock{}.base, api.Manifest{}, api.Asset{})
		checkSeal(t, "the same again", l, told(s.a.Kind), s.a, l.of(s), api.OK)
	}
}
