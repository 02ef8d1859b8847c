package bundle_test

import (
	"bytes"
	"encoding/binary"
	"fmt"
	"math"
	"slices"
	"testing"

	"umbra/aead"
	"umbra/api"
	"umbra/asset"
	"umbra/bundle"
	"umbra/manifest"
)

// stranger returns a key that none of locks has.
func stranger() [32]byte { return [32]byte(bytes.Repeat([]byte{3, 14, 15, 92}, 8)) }

// modelPeek returns what Peek promises.
func modelPeek(key [32]byte, b []byte) (api.Manifest, api.Errno) {
	if len(b) < 63 {
		return api.Manifest{}, api.ErrShort
	}
	if b[0] != 'U' || b[1] != 'M' || b[2] != 'B' || b[3] != '1' {
		return api.Manifest{}, api.ErrForm
	}
	l := lock{key, [8]byte(b[4:12])}
	if !bytes.Equal(b[47:63], l.seal(0, slices.Clone(b[:47]), nil)) {
		return api.Manifest{}, api.ErrTag
	}
	return manifest.Decode(slices.Clone(b[12:47]))
}

// modelOpen returns what Open promises: it knows where each chunk must stand, and finds
// whether a tag is right by sealing what it opened.
func modelOpen(key [32]byte, b []byte) (api.Manifest, api.Asset, api.Errno) {
	m, e := modelPeek(key, b)
	if e != api.OK {
		return api.Manifest{}, api.Asset{}, e
	}
	l, plain := lock{key, [8]byte(b[4:12])}, []byte{}
	for i := range m.Chunks {
		from := 63 + 276*i
		n := min(256, m.Size-256*i)
		if len(b) < from+4 {
			return api.Manifest{}, api.Asset{}, api.ErrShort
		}
		if binary.LittleEndian.Uint16(b[from:]) != uint16(i) || binary.LittleEndian.Uint16(b[from+2:]) != uint16(n) {
			return api.Manifest{}, api.Asset{}, api.ErrOrder
		}
		if len(b) < from+20+n {
			return api.Manifest{}, api.Asset{}, api.ErrShort
		}
		sealed := slices.Clone(b[from+4 : from+20+n])
		// What encrypts decrypts as well.
		piece := l.seal(i+1, nil, sealed[:n])[:n]
		if !bytes.Equal(sealed, l.seal(i+1, slices.Concat(b[from:from+4], b[47:63]), piece)) {
			return api.Manifest{}, api.Asset{}, api.ErrTag
		}
		plain = append(plain, piece...)
	}
	if len(b) > 63+m.Size+20*m.Chunks {
		return api.Manifest{}, api.Asset{}, api.ErrOrder
	}
	a, e := asset.Decode(m.Kind, plain)
	if e != api.OK {
		return api.Manifest{}, api.Asset{}, e
	}
	return m, a, api.OK
}

// checkPeek holds Peek of b against the model, and returns its error.
func checkPeek(t *testing.T, what string, key [32]byte, b []byte) api.Errno {
	t.Helper()
	kept := slices.Clone(b)
	m, e := bundle.Peek(key, b)
	want, err := modelPeek(key, b)
	if e != err || m != want {
		t.Errorf("Peek of %s = %+v, %v, want %+v, %v", what, m, e, want, err)
	}
	if e != api.OK && m != (api.Manifest{}) {
		t.Errorf("Peek of %s tells %+v beside %v", what, m, e)
	}
	if !bytes.Equal(b, kept) {
		t.Errorf("Peek of %s changes it", what)
	}
	return e
}

// checkOpen holds Peek and Open of b against the model, and returns Open's error.
func checkOpen(t *testing.T, what string, key [32]byte, b []byte) api.Errno {
	t.Helper()
	peeked := checkPeek(t, what, key, b)
	kept := slices.Clone(b)
	m, a, e := bundle.Open(key, b)
	wantM, wantA, err := modelOpen(key, b)
	if e != err || m != wantM || !asset.Same(a, wantA) {
		t.Errorf("Open of %s = %+v, %+v, %v, want %+v, %+v, %v", what, m, a, e, wantM, wantA, err)
	}
	if e != api.OK && (m != (api.Manifest{}) || !isZero(a)) {
		t.Errorf("Open of %s tells %+v and %+v beside %v", what, m, a, e)
	}
	if peeked != api.OK && e != peeked {
		t.Errorf("Open of %s is %v, and Peek %v", what, e, peeked)
	}
	if !bytes.Equal(b, kept) {
		t.Errorf("Open of %s changes it", what)
	}
	return e
}

// expectOpen holds Open of b against an error, too.
func expectOpen(t *testing.T, what string, key [32]byte, b []byte, want api.Errno) {
	t.Helper()
	if e := checkOpen(t, what, key, b); e != want {
		t.Errorf("Open of %s is %v, want %v", what, e, want)
	}
}

// expectBoth holds Peek and Open of b against one error.
func expectBoth(t *testing.T, what string, key [32]byte, b []byte, want api.Errno) {
	t.Helper()
	if e := checkPeek(t, what, key, b); e != want {
		t.Errorf("Peek of %s is %v, want %v", what, e, want)
	}
	expectOpen(t, what, key, b, want)
}

// expectChunks holds Peek and Open of b against an error of Open alone.
func expectChunks(t *testing.T, what string, key [32]byte, b []byte, want api.Errno) {
	t.Helper()
	if e := checkPeek(t, what, key, b); e != api.OK {
		t.Errorf("Peek of %s is %v", what, e)
	}
	expectOpen(t, what, key, b, want)
}

// join returns a bundle of a head and chunks.
func join(head []byte, chunks ...[]byte) []byte {
	return slices.Concat(head, slices.Concat(chunks...))
}

// set returns b with one byte changed by exclusive or.
func set(b []byte, at int, by byte) []byte {
	b = slices.Clone(b)
	b[at] ^= by
	return b
}

// turned goes through b with each single bit from one byte to another turned.
func turned(b []byte, from, to int, f func(at int, b []byte)) {
	b = slices.Clone(b)
	for i := 8 * from; i < 8*to; i++ {
		b[i/8] ^= 1 << (i % 8)
		f(i/8, b)
		b[i/8] ^= 1 << (i % 8)
	}
}

// TestOpenOfShort opens nothing, and all bytes up to 62 that there are of a bundle, or
// that begin otherwise.
func TestOpenOfShort(t *testing.T) {
	expectBoth(t, "nil", different().key, nil, api.ErrShort)
	expectBoth(t, "nothing", different().key, []byte{}, api.ErrShort)
	for _, l := range locks() {
		for _, s := range few() {
			b := l.of(s)
			for n := range 63 {
				expectBoth(t, "too few bytes", l.key, b[:n], api.ErrShort)
				expectBoth(t, "too few bytes at the end", l.key, b[len(b)-n:], api.ErrShort)
				expectBoth(t, "too few bytes 0", l.key, make([]byte, n), api.ErrShort)
				expectBoth(t, "too few bytes by another key", stranger(), b[:n], api.ErrShort)
				if n > 0 {
					expectBoth(t, "too few other bytes", l.key, set(b[:n], 0, 1), api.ErrShort)
					expectBoth(t, "too few bytes with another end", l.key, set(b[:n], n-1, 128), api.ErrShort)
				}
			}
		}
	}
}

// TestOpenOfOtherBeginnings has each other byte in each of the first four places, whether
// the tags are those of such a beginning or not.
func TestOpenOfOtherBeginnings(t *testing.T) {
	l := different()
	for _, s := range few() {
		b := l.of(s)
		for at := range 4 {
			for by := 1; by < 256; by++ {
				expectBoth(t, "another beginning", l.key, set(b, at, byte(by)), api.ErrForm)
				expectBoth(t, "another beginning of a head", l.key, set(b[:63], at, byte(by)), api.ErrForm)
			}
		}
		for _, mark := range []string{"umb1", "UMB2", "UMB0", "UMBA", "1BMU", "MUB1", "UBM1", "\x00\x00\x00\x00", "\xff\xff\xff\xff"} {
			before := slices.Concat([]byte(mark), b[4:47])
			head := slices.Concat(before, l.seal(0, before, nil))
			whole := join(head, l.body(head, encoded(s.a))...)
			expectBoth(t, mark+" with right tags", l.key, whole, api.ErrForm)
			expectBoth(t, mark+" with a right tag", l.key, head, api.ErrForm)
			expectBoth(t, mark+" with wrong tags", l.key, slices.Concat([]byte(mark), b[4:]), api.ErrForm)
			expectBoth(t, mark+" by another key", stranger(), whole, api.ErrForm)
			expectBoth(t, mark+" and a bit of the tag", l.key, set(whole, 47, 1), api.ErrForm)
		}
		// One of these stands four bytes too late or too early.
		expectBoth(t, "a bundle behind four bytes", l.key, slices.Concat([]byte("UMB0"), b), api.ErrForm)
		expectBoth(t, "a bundle without its beginning", l.key, slices.Concat(b[4:], make([]byte, 63)), api.ErrForm)
	}
	expectBoth(t, "63 bytes 0", l.key, make([]byte, 63), api.ErrForm)
	expectBoth(t, "64 bytes 0", l.key, make([]byte, 64), api.ErrForm)
}

// TestOpenOfTurnedHeads turns each bit of the first 63 bytes.
func TestOpenOfTurnedHeads(t *testing.T) {
	for _, l := range locks() {
		for _, s := range few() {
			turned(l.of(s), 0, 63, func(at int, b []byte) {
				want := api.ErrTag
				if at < 4 {
					want = api.ErrForm
				}
				expectBoth(t, fmt.Sprintf("a bit of byte %d turned", at), l.key, b, want)
				if at%5 == 0 {
					expectBoth(t, fmt.Sprintf("a head with a bit of byte %d turned", at), l.key, b[:63], want)
				}
			})
		}
	}
}

// TestOpenByOtherKeys turns each bit of the key.
func TestOpenByOtherKeys(t *testing.T) {
	for _, l := range locks() {
		b := l.of(few()[0])
		turned(l.key[:], 0, 32, func(_ int, key []byte) {
			expectBoth(t, "what another key has sealed", [32]byte(key), b, api.ErrTag)
		})
		expectBoth(t, "what another key has sealed", stranger(), b, api.ErrTag)
		expectOpen(t, "what the key has sealed", l.key, b, api.OK)
	}
}

// TestPeekOfOtherTags has manifests with tags that are made in almost the same way.
func TestPeekOfOtherTags(t *testing.T) {
	for _, s := range few() {
		l := different()
		b := l.of(s)
		before := b[:47]
		none := lock{key: l.key}
		reversed := slices.Clone(b[47:63])
		slices.Reverse(reversed)
		for name, tag := range map[string][]byte{
			"of the nonce of 1":           l.seal(1, before, nil),
			"of the nonce of 2^31":        l.seal(1<<31, before, nil),
			"of the nonce of -1":          l.seal(-1, before, nil),
			"of another base's nonce":     none.seal(0, before, nil),
			"without the mark":            l.seal(0, before[4:], nil),
			"without the base":            l.seal(0, slices.Concat(before[:4], before[12:]), nil),
			"of the manifest alone":       l.seal(0, before[12:], nil),
			"without the manifest":        l.seal(0, before[:12], nil),
			"without the last byte":       l.seal(0, before[:46], nil),
			"of nothing":                  l.seal(0, nil, nil),
			"of the sealed manifest":      l.seal(0, before[:12], before[12:])[35:],
			"of the bytes as sealed ones": l.seal(0, nil, before)[47:],
			"of 16 bytes 0 more":          l.seal(0, slices.Concat(before, make([]byte, 16)), nil),
			"of one byte 0 more":          l.seal(0, slices.Concat(before, []byte{0}), nil),
			"turned round":                reversed,
			"of zeros":                    make([]byte, 16),
			"of a chunk":                  b[len(b)-16:],
		} {
			head := slices.Concat(before, tag)
			expectBoth(t, "a manifest with a tag "+name, l.key, head, api.ErrTag)
			expectBoth(t, "a bundle with a tag "+name, l.key, join(head, l.body(head, encoded(s.a))...), api.ErrTag)
			expectBoth(t, "a bundle with chunks of the right tag, and a tag "+name, l.key, slices.Concat(head, b[63:]), api.ErrTag)
		}
	}
}

// badManifest is one that manifest.Decode refuses.
type badManifest struct {
	what string
	m    api.Manifest
	want api.Errno
}

// badManifests returns such ones, made of that of a sample.
func badManifests(s sample) []badManifest {
	var list []badManifest
	in := func(what string, want api.Errno, change func(m *api.Manifest)) {
		m := whole(s)
		change(&m)
		list = append(list, badManifest{what, m, want})
	}
	for _, kind := range []int{0, 5, 128, 255} {
		in("no kind", api.ErrKind, func(m *api.Manifest) { m.Kind = kind })
		in("no kind, and a mask", api.ErrKind, func(m *api.Manifest) { m.Kind, m.Masks[0] = kind, 255 })
		in("no kind, and a size", api.ErrKind, func(m *api.Manifest) { m.Kind, m.Size = kind, 0 })
	}
	for layer := range 8 {
		in("a mask", api.ErrForm, func(m *api.Manifest) { m.Masks[layer] = 16 })
		in("a mask and a size", api.ErrForm, func(m *api.Manifest) { m.Masks[layer], m.Size = 255, 1<<32-1 })
	}
	in("a licence", api.ErrForm, func(m *api.Manifest) { m.From = m.To + 1 })
	in("a licence and a size", api.ErrForm, func(m *api.Manifest) { m.From, m.To, m.Size = math.MaxUint32, 0, 2049 })
	in("no size", api.ErrForm, func(m *api.Manifest) { m.Size = 0 })
	in("no size and no chunks", api.ErrForm, func(m *api.Manifest) { m.Size, m.Chunks = 0, 0 })
	most := manifest.Cap(s.a.Kind)
	for _, size := range []int{most + 1, 2049, 65536, 1<<31 - 1, 1 << 31, 1<<32 - 256, 1<<32 - 1} {
		in("a size", api.ErrCap, func(m *api.Manifest) { m.Size, m.Chunks = size, (size+255)/256 })
		in("a size and no chunks", api.ErrCap, func(m *api.Manifest) { m.Size, m.Chunks = size, 0 })
	}
	for _, chunks := range []int{0, s.chunks - 1, s.chunks + 1, s.chunks + 256, 1<<16 - 1} {
		in("a number of chunks", api.ErrForm, func(m *api.Manifest) { m.Chunks = chunks })
	}
	in("a size of another number of chunks", api.ErrForm, func(m *api.Manifest) { m.Size = most; m.Chunks = (most+255)/256 + 1 })
	return list
}

// TestPeekOfBadManifests has manifests that are sealed well, but manifest.Decode refuses.
func TestPeekOfBadManifests(t *testing.T) {
	l := different()
	for _, s := range few() {
		for _, x := range badManifests(s) {
			described := layout(x.m)
			if _, e := manifest.Decode(described); e != x.want {
				t.Errorf("Decode of a manifest with %s is %v, want %v", x.what, e, x.want)
			}
			b := l.bundle(described, encoded(s.a))
			expectBoth(t, "a bundle with "+x.what, l.key, b, x.want)
			expectBoth(t, "a head with "+x.what, l.key, b[:63], x.want)
			expectBoth(t, "a bundle that ends too early with "+x.what, l.key, b[:70], x.want)
			expectBoth(t, "a bundle with a wrong index with "+x.what, l.key, set(b, 63, 1), x.want)
			expectBoth(t, "a bundle with a wrong chunk with "+x.what, l.key, set(b, 67, 1), x.want)
			expectBoth(t, "a longer bundle with "+x.what, l.key, append(b, 0), x.want)
			expectBoth(t, "a wrong tag with "+x.what, l.key, set(b, 62, 128), api.ErrTag)
			expectBoth(t, "a wrong beginning with "+x.what, l.key, set(b, 3, 128), api.ErrForm)
			expectBoth(t, "another key with "+x.what, stranger(), b, api.ErrTag)
			expectBoth(t, "62 bytes with "+x.what, l.key, b[:62], api.ErrShort)
		}
	}
}

// TestPeekLooksAtTheHeadAlone has any bytes as chunks.
func TestPeekLooksAtTheHeadAlone(t *testing.T) {
	l := different()
	for _, s := range samples() {
		b := l.of(s)
		for _, behind := range [][]byte{nil, {0}, b[63:], b[64:], b[63 : len(b)-1], b, make([]byte, 4096), bytes.Repeat([]byte{255}, 300)} {
			m, e := bundle.Peek(l.key, slices.Concat(b[:63], behind))
			if e != api.OK || m != whole(s) {
				t.Errorf("Peek of %d bytes is %+v, %v", 63+len(behind), m, e)
			}
		}
		for n := 63; n < len(b); n++ {
			if m, e := bundle.Peek(l.key, b[:n]); e != api.OK || m != whole(s) {
				t.Errorf("Peek of %d bytes is %+v, %v", n, m, e)
			}
		}
	}
}

// TestOpenOfPrefixes opens each proper prefix that has a whole manifest. What lies behind
// it is the rest of the bundle, which does not count, or nothing.
func TestOpenOfPrefixes(t *testing.T) {
	for _, l := range locks()[:2] {
		for _, s := range samples() {
			b := l.of(s)
			for n := 63; n < len(b); n++ {
				expectChunks(t, fmt.Sprintf("the first %d of %d bytes", n, len(b)), l.key, b[:n], api.ErrShort)
				expectChunks(t, fmt.Sprintf("no more than %d of %d bytes", n, len(b)), l.key, slices.Clip(b[:n]), api.ErrShort)
			}
			expectOpen(t, "all bytes", l.key, b, api.OK)
			expectOpen(t, "all bytes and no room", l.key, slices.Clip(b), api.OK)
		}
	}
}

// TestOpenOfTurnedChunks turns each bit of the chunks.
func TestOpenOfTurnedChunks(t *testing.T) {
	l := different()
	for _, s := range append(few(), sample{meshOf(20, 18), 256, 1}, sample{meshOf(3, 1), 35, 1}) {
		b := l.of(s)
		turned(b, 63, len(b), func(at int, b []byte) {
			want := api.ErrTag
			if (at-63)%276 < 4 {
				want = api.ErrOrder
			}
			expectChunks(t, fmt.Sprintf("a bit of byte %d of %d turned", at, len(b)), l.key, b, want)
		})
	}
}

// long returns samples of several chunks.
func long() []sample {
	return slices.DeleteFunc(samples(), func(s sample) bool { return s.chunks < 2 })
}

// without returns all chunks but one.
func without(chunks [][]byte, i int) [][]byte {
	return slices.Delete(slices.Clone(chunks), i, i+1)
}

// TestOpenOfMovedChunks exchanges chunks, leaves some out, and has some twice.
func TestOpenOfMovedChunks(t *testing.T) {
	l := different()
	for _, s := range samples() {
		head := l.head(layout(whole(s)))
		all := l.body(head, encoded(s.a))
		last := len(all) - 1
		for i := range all {
			for j := range i {
				moved := slices.Clone(all)
				moved[i], moved[j] = moved[j], moved[i]
				expectChunks(t, fmt.Sprintf("chunks %d and %d exchanged", i, j), l.key, join(head, moved...), api.ErrOrder)
			}
			want := api.ErrOrder
			if i == last {
				want = api.ErrShort
			}
			expectChunks(t, fmt.Sprintf("all but the chunk %d", i), l.key, join(head, without(all, i)...), want)
			expectChunks(t, fmt.Sprintf("the chunks before %d", i), l.key, join(head, all[:i]...), api.ErrShort)
			for j := range last + 2 {
				twice := slices.Insert(slices.Clone(all), j, all[i])
				expectChunks(t, fmt.Sprintf("the chunk %d twice, the second time at %d", i, j), l.key, join(head, twice...), api.ErrOrder)
			}
			for j := range all {
				instead := slices.Clone(all)
				instead[j] = all[i]
				if i != j {
					expectChunks(t, fmt.Sprintf("the chunk %d in place of %d", i, j), l.key, join(head, instead...), api.ErrOrder)
				}
			}
		}
		if last > 0 {
			back := slices.Clone(all)
			slices.Reverse(back)
			expectChunks(t, "the chunks turned round", l.key, join(head, back...), api.ErrOrder)
			expectChunks(t, "the chunks in a circle", l.key, join(head, append(slices.Clone(all[1:]), all[0])...), api.ErrOrder)
		}
		expectChunks(t, "no chunks", l.key, head, api.ErrShort)
		expectChunks(t, "all chunks twice", l.key, join(head, append(slices.Clone(all), all...)...), api.ErrOrder)
		expectChunks(t, "the chunks as they were", l.key, join(head, all...), api.OK)
	}
}

// TestOpenOfExchangedInsides leaves the four bytes of each chunk where they are, and
// exchanges what is sealed.
func TestOpenOfExchangedInsides(t *testing.T) {
	l := different()
	for _, s := range long() {
		head := l.head(layout(whole(s)))
		all := l.body(head, encoded(s.a))
		for i := range all {
			for j := range i {
				if len(all[i]) != len(all[j]) {
					continue
				}
				moved := slices.Clone(all)
				moved[i] = slices.Concat(all[i][:4], all[j][4:])
				moved[j] = slices.Concat(all[j][:4], all[i][4:])
				expectChunks(t, "insides exchanged", l.key, join(head, moved...), api.ErrTag)
				moved[j] = all[j]
				expectChunks(t, "an inside twice", l.key, join(head, moved...), api.ErrTag)
				moved[i] = slices.Concat(all[i][:len(all[i])-16], all[j][len(all[j])-16:])
				expectChunks(t, "a tag twice", l.key, join(head, moved...), api.ErrTag)
			}
		}
	}
}

// TestOpenOfOtherBundles has chunks of another bundle of the same key at the same place.
func TestOpenOfOtherBundles(t *testing.T) {
	l := different()
	other := l
	other.base[3] ^= 4
	foreign := l
	foreign.key[31] ^= 4
	for _, s := range samples() {
		plain, own := encoded(s.a), layout(whole(s))
		head := l.head(own)
		all := l.body(head, plain)
		renamed := whole(s)
		renamed.Id++
		for name, their := range map[string]struct {
			l    lock
			head []byte
		}{
			"of another base":     {other, other.head(own)},
			"of another manifest": {l, l.head(layout(renamed))},
			"of another key":      {foreign, foreign.head(own)},
		} {
			theirs := their.l.body(their.head, plain)
			for i := range all {
				mixed := slices.Clone(all)
				mixed[i] = theirs[i]
				expectChunks(t, fmt.Sprintf("a chunk %d %s", i, name), l.key, join(head, mixed...), api.ErrTag)
			}
			expectChunks(t, "all chunks "+name, l.key, join(head, theirs...), api.ErrTag)
			expectOpen(t, "all of it "+name, their.l.key, join(their.head, theirs...), api.OK)
		}
	}
}

// TestOpenOfOneManifest has chunks of two assets that were sealed with the same key, base
// and manifest: nothing tells them apart, and so they are one bundle.
func TestOpenOfOneManifest(t *testing.T) {
	l, s := different(), sample{meshOf(33, 60), 512, 2}
	changed := clone(s.a)
	changed.Mesh.Verts[0].X = 77
	changed.Mesh.Tris[59] = [3]int{9, 8, 7}
	one, two := encoded(s.a), encoded(changed)
	described := layout(whole(s))
	head := l.head(described)
	first, second := l.body(head, one), l.body(head, two)
	if !bytes.Equal(l.head(described), head) || bytes.Equal(one[:256], two[:256]) || bytes.Equal(one[256:], two[256:]) {
		t.Fatal("the assets are not what they should be")
	}
	mixed := join(head, first[0], second[1])
	expectOpen(t, "chunks of two assets", l.key, mixed, api.OK)
	_, a, _ := bundle.Open(l.key, mixed)
	if got := encoded(a); !bytes.Equal(got, slices.Concat(one[:256], two[256:])) {
		t.Errorf("the chunks of two assets are opened as %x", got)
	}
}

// TestOpenOfChangedNumbers has other numbers before a chunk, with and without a tag that
// fits them, and with and without as many plain bytes.
func TestOpenOfChangedNumbers(t *testing.T) {
	l := different()
	for _, s := range append(few(), sample{meshOf(64, 64), 834, 4}, sample{meshOf(20, 18), 256, 1}) {
		plain := encoded(s.a)
		head := l.head(layout(whole(s)))
		all := l.body(head, plain)
		for i := range all {
			n := len(all[i]) - 20
			piece := plain[256*i : 256*i+n]
			try := func(what string, chunk []byte) {
				t.Helper()
				changed := slices.Clone(all)
				changed[i] = chunk
				what = fmt.Sprintf("a chunk %d with %s", i, what)
				expectChunks(t, what, l.key, join(head, changed...), api.ErrOrder)
				expectChunks(t, what+" at the end", l.key, join(head, changed[:i+1]...), api.ErrOrder)
				// Of a chunk that ends too early the four bytes are told first.
				expectChunks(t, what+" alone", l.key, join(head, append(slices.Clone(all[:i]), chunk[:4])...), api.ErrOrder)
			}
			for _, index := range []int{0, 1, 2, 3, 4, i - 1, i + 1, i + 2, i + 255, i + 256, i + 257, i ^ 128, i ^ 32768, 65535, 65280} {
				if index == i || index < 0 {
					continue
				}
				aad := slices.Concat(numbers(index, n), tagOf(head))
				try("another index", slices.Concat(numbers(index, n), all[i][4:]))
				try("another index that is sealed", slices.Concat(numbers(index, n), l.seal(i+1, aad, piece)))
				try("another index and its nonce", l.chunk(head, index, n, piece))
			}
			for _, many := range []int{0, 1, n - 1, n + 1, n + 16, n + 256, n ^ 256, n ^ 32768, 255, 256, 257, 512, 65535, 65280} {
				if many == n {
					continue
				}
				try("another number of bytes", slices.Concat(numbers(i, many), all[i][4:]))
				try("another number of bytes that is sealed", l.chunk(head, i, many, piece))
				if many < 1024 {
					try("as many bytes as it says", l.chunk(head, i, many, slices.Concat(piece, make([]byte, 1024))[:many]))
				}
				try("another index and number of bytes", slices.Concat(numbers(i+1, many), all[i][4:]))
			}
			if i != n {
				try("both numbers exchanged", slices.Concat(numbers(n, i), all[i][4:]))
			}
			try("the most significant byte first", slices.Concat([]byte{byte(i >> 8), byte(i), byte(n >> 8), byte(n)}, all[i][4:], []byte{0}))
		}
	}
}

// TestOpenOfOtherCuts has the same plain bytes in other chunks.
func TestOpenOfOtherCuts(t *testing.T) {
	l := different()
	for _, s := range samples() {
		plain := encoded(s.a)
		head := l.head(layout(whole(s)))
		for _, size := range []int{1, 2, 16, 100, 128, 255, 257, 300, 400, 512, 1000} {
			var all [][]byte
			for i, rest := 0, plain; len(rest) > 0; i++ {
				n := min(size, len(rest))
				all = append(all, l.chunk(head, i, n, rest[:n]))
				rest = rest[n:]
			}
			want := api.ErrOrder
			if size >= s.size && s.size <= 256 {
				want = api.OK
			}
			expectChunks(t, fmt.Sprintf("%d bytes in chunks of %d", s.size, size), l.key, join(head, all...), want)
		}
		right := l.body(head, plain)
		for at := range s.chunks + 1 {
			empty := l.chunk(head, at, 0, nil)
			expectChunks(t, "a chunk of no bytes", l.key, join(head, slices.Insert(slices.Clone(right), at, empty)...), api.ErrOrder)
		}
		// The last chunk filled up to a whole one, or less its last byte.
		last := s.chunks - 1
		rest := plain[256*last:]
		for _, n := range []int{len(rest) - 1, len(rest) + 1, 256} {
			if n == len(rest) {
				continue
			}
			filled := l.chunk(head, last, n, slices.Concat(rest, make([]byte, 256))[:n])
			expectChunks(t, "a last chunk of another number of bytes", l.key, join(head, append(slices.Clone(right[:last]), filled)...), api.ErrOrder)
		}
	}
}

// TestOpenOfMore has bytes behind the end.
func TestOpenOfMore(t *testing.T) {
	l := different()
	for _, s := range samples() {
		b := l.of(s)
		for name, behind := range map[string][]byte{
			"a byte 0":          {0},
			"a byte 255":        {255},
			"three bytes":       {1, 2, 3},
			"four bytes":        numbers(s.chunks, 16),
			"a tag":             tagOf(b),
			"300 bytes":         make([]byte, 300),
			"a bundle":          b,
			"the next chunk":    l.chunk(b, s.chunks, 9, make([]byte, 9)),
			"a whole chunk":     l.chunk(b, s.chunks, 256, make([]byte, 256)),
			"an empty chunk":    l.chunk(b, s.chunks, 0, nil),
			"the first chunk":   b[63:min(len(b), 63+276)],
			"another's chunk":   lock{}.of(s)[63:],
			"the chunk before":  b[len(b)-16-(s.size-1)%256-1-4:],
			"the manifest":      b[12:63],
			"its own beginning": []byte("UMB1"),
		} {
			expectChunks(t, name+" behind the end", l.key, slices.Concat(b, behind), api.ErrOrder)
		}
	}
}

// TestOpenOfOtherSeals has chunks that are sealed in almost the same way.
func TestOpenOfOtherSeals(t *testing.T) {
	l := different()
	for _, s := range append(few(), sample{meshOf(20, 18), 256, 1}) {
		plain := encoded(s.a)
		head := l.head(layout(whole(s)))
		tag, all := tagOf(head), l.body(head, plain)
		for i := range all {
			n := len(all[i]) - 20
			front, piece := numbers(i, n), plain[256*i:256*i+n]
			aad := slices.Concat(front, tag)
			none := lock{key: l.key}
			foreign := lock{stranger(), l.base}
			reversed := slices.Clone(aad[4:])
			slices.Reverse(reversed)
			for name, sealed := range map[string][]byte{
				"the manifest's nonce":        l.seal(0, aad, piece),
				"the nonce of its index":      l.seal(i, aad, piece),
				"the nonce of the next chunk": l.seal(i+2, aad, piece),
				"the nonce of 2^31 more":      l.seal(i+1+1<<31, aad, piece),
				"the nonce of no base":        none.seal(i+1, aad, piece),
				"another key":                 foreign.seal(i+1, aad, piece),
				"no aad":                      l.seal(i+1, nil, piece),
				"the four bytes alone":        l.seal(i+1, front, piece),
				"the tag alone":               l.seal(i+1, tag, piece),
				"the tag first":               l.seal(i+1, slices.Concat(tag, front), piece),
				"the tag turned round":        l.seal(i+1, slices.Concat(front, reversed), piece),
				"a byte 0 more":               l.seal(i+1, slices.Concat(aad, []byte{0}), piece),
				"the index of the next chunk": l.seal(i+1, slices.Concat(numbers(i+1, n), tag), piece),
				"another number of bytes":     l.seal(i+1, slices.Concat(numbers(i, n-1), tag), piece),
				"the head":                    l.seal(i+1, slices.Concat(front, head), piece),
				"the manifest":                l.seal(i+1, slices.Concat(front, head[12:47]), piece),
				"the plain bytes":             slices.Concat(piece, all[i][4+n:]),
				"nothing but zeros":           make([]byte, n+16),
				"other plain bytes":           slices.Concat(l.seal(i+1, aad, set(piece, 0, 1))[:n], all[i][4+n:]),
			} {
				if i == 0 && name == "the nonce of its index" {
					continue // it is the manifest's
				}
				changed := slices.Clone(all)
				changed[i] = slices.Concat(front, sealed)
				expectChunks(t, fmt.Sprintf("a chunk %d sealed with %s", i, name), l.key, join(head, changed...), api.ErrTag)
			}
			changed := slices.Clone(all)
			changed[i] = slices.Concat(front, l.seal(i+1, aad, piece))
			expectChunks(t, "a chunk as it was", l.key, join(head, changed...), api.OK)
		}
	}
}

// badPlain is what asset.Decode refuses.
type badPlain struct {
	what  string
	kind  int
	plain []byte
	want  api.Errno
}

// padded returns b and bytes 0, up to size.
func padded(size int, b ...byte) []byte { return append(b, make([]byte, size-len(b))...) }

// badPlains returns such bytes of each kind, with each error that there is, and of all
// sizes up to the cap.
func badPlains() []badPlain {
	mesh, texture, paint, lamp := encoded(meshOf(24, 5)), encoded(textureOf(4)), encoded(material()), encoded(light())
	list := []badPlain{
		{"a mesh of one byte", 1, []byte{1}, api.ErrShort},
		{"a mesh of two bytes", 1, []byte{0, 0}, api.ErrForm},
		{"a mesh less its last byte", 1, mesh[:256], api.ErrShort},
		{"a mesh less a byte in the midst", 1, slices.Delete(slices.Clone(mesh), 100, 101), api.ErrShort},
		{"a mesh and a byte", 1, append(slices.Clone(mesh), 0), api.ErrForm},
		{"a mesh and many bytes", 1, padded(2048, mesh...), api.ErrForm},
		{"a mesh with a corner at 4097", 1, set(mesh, 4, 1), api.ErrGrid},
		{"a mesh with a corner that is no vertex", 1, set(mesh, 256, 128), api.ErrForm},
		{"a mesh of 65 vertices", 1, padded(2+650+3, 65, 1), api.ErrLong},
		{"a mesh of 150 vertices and 182 triangles", 1, padded(2048, 150, 182), api.ErrLong},
		{"a mesh of 255 vertices and triangles", 1, padded(2048, 255, 255), api.ErrShort},
		{"a texture of no side", 2, []byte{0}, api.ErrForm},
		{"a texture of one byte", 2, []byte{1}, api.ErrShort},
		{"a texture of side 3", 2, padded(28, 3), api.ErrForm},
		{"a texture of side 18", 2, padded(973, 18), api.ErrForm},
		{"a texture of side 19", 2, padded(1024, 19), api.ErrShort},
		{"a texture less its last byte", 2, texture[:48], api.ErrShort},
		{"a texture and a byte", 2, append(slices.Clone(texture), 0), api.ErrForm},
		{"a texture and many bytes", 2, padded(1024, texture...), api.ErrForm},
		{"a material of no kind", 3, set(paint, 0, 7), api.ErrForm},
		{"a material less its last byte", 3, paint[:8], api.ErrShort},
		{"a material of one byte", 3, paint[:1], api.ErrShort},
		{"a material and a byte", 3, append(slices.Clone(paint), 0), api.ErrForm},
		{"a material and many bytes", 3, padded(64, paint...), api.ErrForm},
		{"a light of no kind", 4, set(lamp, 0, 2), api.ErrForm},
		{"a light less its last byte", 4, lamp[:30], api.ErrShort},
		{"a light and a byte", 4, append(slices.Clone(lamp), 0), api.ErrForm},
		{"a light and many bytes", 4, padded(64, lamp...), api.ErrForm},
		{"a light that is too bright", 4, set(lamp, 4, 0xff), api.ErrForm},
		{"a light off the grid", 4, set(lamp, 14, 0x7f), api.ErrGrid},
		{"a point with sides", 4, set(lamp, 0, 1), api.ErrForm},
		{"a texture as a mesh", 1, texture, api.ErrForm},
		{"a material as a texture", 2, paint, api.ErrShort},
		{"a light as a material", 3, lamp, api.ErrForm},
		{"a material as a light", 4, paint, api.ErrShort},
	}
	for _, size := range []int{255, 256, 257, 511, 512, 513, 1023, 1024, 1025, 1279, 1280, 1281, 1791, 1792, 1793, 2047, 2048} {
		list = append(list, badPlain{fmt.Sprintf("%d bytes 0", size), 1, make([]byte, size), api.ErrForm})
	}
	return list
}

// described returns a manifest without a fault for so many plain bytes of a kind.
func described(kind, size int) []byte {
	m := told(kind)
	m.Size, m.Chunks = size, (size+255)/256
	return layout(m)
}

// TestOpenOfBadAssets has plain bytes that are sealed well, but asset.Decode refuses.
func TestOpenOfBadAssets(t *testing.T) {
	l := different()
	for _, x := range badPlains() {
		if _, e := asset.Decode(x.kind, x.plain); e != x.want {
			t.Errorf("Decode of %s is %v, want %v", x.what, e, x.want)
		}
		b := l.bundle(described(x.kind, len(x.plain)), x.plain)
		expectChunks(t, x.what, l.key, b, x.want)
		// Each fault of the chunks is told first.
		expectChunks(t, x.what+" and a byte more", l.key, slices.Concat(b, []byte{0}), api.ErrOrder)
		expectChunks(t, x.what+" less a byte", l.key, b[:len(b)-1], api.ErrShort)
		expectChunks(t, x.what+" with a wrong tag", l.key, set(b, len(b)-1, 1), api.ErrTag)
		expectChunks(t, x.what+" with a wrong byte", l.key, set(b, 67, 1), api.ErrTag)
		expectChunks(t, x.what+" with a wrong index", l.key, set(b, 64, 1), api.ErrOrder)
		expectChunks(t, x.what+" with a wrong number of bytes", l.key, set(b, 65, 1), api.ErrOrder)
		expectBoth(t, x.what+" with a wrong manifest", l.key, set(b, 12, 1), api.ErrTag)
	}
}

// TestOpenOfAllSizes has as many plain bytes as there may be, of each kind, and as many
// chunks: those of a mesh go up to eight.
func TestOpenOfAllSizes(t *testing.T) {
	l := different()
	for _, kind := range kinds {
		for size := 1; size <= manifest.Cap(kind); size++ {
			if kind == 1 && size > 520 && (size+2)%256 > 4 {
				continue
			}
			// A mesh or a texture that begins so is longer than its cap, and there is no such
			// kind of a material or of a light.
			b := l.bundle(described(kind, size), bytes.Repeat([]byte{255}, size))
			want := api.ErrShort
			if kind == 3 && size >= 9 || kind == 4 && size >= 31 {
				want = api.ErrForm
			}
			expectChunks(t, fmt.Sprintf("%d bytes of kind %d", size, kind), l.key, b, want)
			expectChunks(t, fmt.Sprintf("%d bytes of kind %d less one", size, kind), l.key, b[:len(b)-1], api.ErrShort)
			expectChunks(t, fmt.Sprintf("%d bytes of kind %d and one", size, kind), l.key, append(b, 0), api.ErrOrder)
		}
	}
}

// chunkFault is a fault of one chunk.
type chunkFault struct {
	what   string
	want   api.Errno
	change func(chunk []byte) []byte
	ends   bool // the bundle must end there, or it is another fault
}

// chunkFaults are in the chapter's order.
func chunkFaults() []chunkFault {
	cut := func(n int) func([]byte) []byte {
		return func(chunk []byte) []byte { return chunk[:n] }
	}
	less := func(n int) func([]byte) []byte {
		return func(chunk []byte) []byte { return chunk[:len(chunk)-n] }
	}
	turn := func(at int, by byte) func([]byte) []byte {
		return func(chunk []byte) []byte { return set(chunk, at, by) }
	}
	return []chunkFault{
		{"nothing", api.ErrShort, cut(0), true},
		{"one of its four bytes", api.ErrShort, cut(1), true},
		{"three of its four bytes", api.ErrShort, cut(3), true},
		{"an index", api.ErrOrder, turn(0, 128), false},
		{"a high byte of an index", api.ErrOrder, turn(1, 1), false},
		{"a number of bytes", api.ErrOrder, turn(2, 1), false},
		{"a high byte of a number of bytes", api.ErrOrder, turn(3, 2), false},
		{"no sealed byte", api.ErrShort, cut(4), true},
		{"one sealed byte", api.ErrShort, cut(5), true},
		{"a byte too few", api.ErrShort, less(1), true},
		{"a tag too few", api.ErrShort, less(16), true},
		{"a sealed byte", api.ErrTag, turn(4, 64), false},
		{"the tag", api.ErrTag, func(chunk []byte) []byte { return set(chunk, len(chunk)-1, 1) }, false},
	}
}

// TestOpenOrder has two faults: of one chunk, of two, of a chunk and of what is behind
// it. The first one is told.
func TestOpenOrder(t *testing.T) {
	l := different()
	for _, s := range append(few(), sample{meshOf(62, 49), 769, 4}, sample{meshOf(33, 60), 512, 2}) {
		head := l.head(layout(whole(s)))
		all := l.body(head, encoded(s.a))
		for i := range all {
			for rank, x := range chunkFaults() {
				changed := slices.Clone(all)
				changed[i] = x.change(all[i])
				what := fmt.Sprintf("%s of chunk %d", x.what, i)
				expectChunks(t, what+" at the end", l.key, join(head, changed[:i+1]...), x.want)
				if !x.ends {
					expectChunks(t, what, l.key, join(head, changed...), x.want)
					expectChunks(t, what+", and a byte behind the end", l.key, append(join(head, changed...), 0), x.want)
					for j := i + 1; j < len(all); j++ {
						expectChunks(t, what+", and a missing chunk", l.key, join(head, without(changed, j)...), x.want)
						for _, y := range chunkFaults() {
							both := slices.Clone(changed)
							both[j] = y.change(all[j])
							expectChunks(t, what+", and "+y.what+" of a later one", l.key, join(head, both...), x.want)
						}
					}
				}
				// The faults of the four bytes are told ahead of those behind them, and a
				// missing byte ahead of a wrong one.
				for later, y := range chunkFaults() {
					if later > rank && !x.ends {
						both := slices.Clone(changed)
						both[i] = x.change(y.change(all[i]))
						expectChunks(t, what+", and "+y.what, l.key, join(head, both[:i+1]...), x.want)
					}
				}
				if x.want == api.ErrTag {
					expectChunks(t, what+", and a byte too few", l.key, join(head, append(slices.Clone(all[:i]), changed[i][:len(changed[i])-1])...), api.ErrShort)
				}
			}
		}
	}
}

// TestOpenInvertsSeal goes there and back, and needs no model.
func TestOpenInvertsSeal(t *testing.T) {
	for _, l := range locks() {
		for _, s := range samples() {
			sealed, e := bundle.Seal(l.key, l.base, told(s.a.Kind), s.a)
			if e != api.OK {
				t.Fatalf("Seal of %d bytes is %v", s.size, e)
			}
			peeked, e := bundle.Peek(l.key, sealed)
			if e != api.OK || peeked != whole(s) {
				t.Errorf("Peek of %d sealed bytes is %+v, %v", s.size, peeked, e)
			}
			m, a, e := bundle.Open(l.key, sealed)
			if e != api.OK || m != whole(s) || !asset.Same(a, s.a) {
				t.Errorf("Open of %d sealed bytes is %+v, %+v, %v", s.size, m, a, e)
			}
			again, e := bundle.Seal(l.key, l.base, m, a)
			if e != api.OK || !bytes.Equal(again, sealed) {
				t.Errorf("the second Seal of %d bytes is another one, %v", s.size, e)
			}
		}
	}
}

// TestOpenOfDrawn opens bytes that nobody has sealed.
func TestOpenOfDrawn(t *testing.T) {
	draw := draws()
	for range 1000 {
		l := drawnLock(draw)
		b := make([]byte, 63+draw()%700)
		for i := range b {
			b[i] = byte(draw())
		}
		copy(b, "UMB1")
		expectBoth(t, "drawn bytes", l.key, b, api.ErrTag)
	}
}

// TestOpenOfDrawnChanges changes bundles in one place or two, or not at all. What is
// opened is what was sealed.
func TestOpenOfDrawnChanges(t *testing.T) {
	draw := draws()
	all, opened := samples(), 0
	for range 5000 {
		l, s := drawnLock(draw), all[draw()%uint64(len(all))]
		sealed := l.of(s)
		b := slices.Clone(sealed)
		for range draw() % 3 {
			at := int(draw() % uint64(len(b)+1))
			to := at + int(draw()%uint64(len(b)-at+1))
			switch draw() % 5 {
			case 0:
				b = slices.Delete(b, at, to)
			case 1:
				b = slices.Insert(b, at, slices.Clone(b[at:to])...)
			case 2:
				b = append(b, byte(draw()))
			default:
				b[at%len(b)] ^= byte(draw())
			}
			if len(b) == 0 {
				break
			}
		}
		if checkOpen(t, "changed bytes", l.key, b) == api.OK {
			opened++
			if !bytes.Equal(b, sealed) {
				t.Errorf("Open of %x opens what was sealed as %x", b, sealed)
			}
			m, a, _ := bundle.Open(l.key, b)
			if again, e := bundle.Seal(l.key, l.base, m, a); e != api.OK || !bytes.Equal(again, b) {
				t.Errorf("Seal of what Open tells of %x is %x, %v", b, again, e)
			}
		}
	}
	if opened < 1000 || opened > 4500 {
		t.Errorf("%d of the changed bundles are opened", opened)
	}
}

// TestOpenLeavesItsArgument looks whether the bytes, or what lies behind them, have
// changed, and whether an answer changes with them afterwards, or they with it.
func TestOpenLeavesItsArgument(t *testing.T) {
	l := different()
	for _, s := range samples() {
		sealed := l.of(s)
		room := slices.Concat(sealed, bytes.Repeat([]byte{77}, 400))
		kept := slices.Clone(room)
		for _, n := range []int{0, 40, 63, 70, 90, len(sealed) - 1, len(sealed)} {
			bundle.Peek(l.key, room[:n])
			bundle.Open(l.key, room[:n])
			bundle.Open(stranger(), room[:n])
		}
		m, a, e := bundle.Open(l.key, room[:len(sealed)])
		if e != api.OK || m != whole(s) || !asset.Same(a, s.a) {
			t.Errorf("Open of %d bytes with room behind them is %+v, %+v, %v", len(sealed), m, a, e)
		}
		if !bytes.Equal(room, kept) {
			t.Errorf("Open of %d bytes changes them, or what lies behind them", len(sealed))
		}
		clear(room)
		if m != whole(s) || !asset.Same(a, s.a) {
			t.Errorf("what Open told of %d bytes changes with them", len(sealed))
		}
		copy(room, kept)
		spoil(a)
		if !bytes.Equal(room, kept) {
			t.Errorf("the %d bytes change with what Open told of them", len(sealed))
		}
		if m, a, e := bundle.Open(l.key, room[:len(sealed)]); e != api.OK || m != whole(s) || !asset.Same(a, s.a) {
			t.Errorf("the second Open of %d bytes is %+v, %+v, %v", len(sealed), m, a, e)
		}
	}
}

// TestNothingIsTold has wrong bundles whose chunks before the fault are right: nothing of
// them is told.
func TestNothingIsTold(t *testing.T) {
	l := different()
	for _, s := range samples() {
		b := l.of(s)
		for what, wrong := range map[string][]byte{
			"a wrong tag":         set(b, len(b)-1, 1),
			"a byte behind":       slices.Concat(b, []byte{0}),
			"a byte missing":      b[:len(b)-1],
			"a wrong first chunk": set(b, 67, 1),
			"a wrong manifest":    set(b, 12, 1),
		} {
			m, a, e := bundle.Open(l.key, wrong)
			lists := len(a.Mesh.Verts) + len(a.Mesh.Uvs) + len(a.Mesh.Tris) + len(a.Texture.Texels)
			room := cap(a.Mesh.Verts) + cap(a.Mesh.Uvs) + cap(a.Mesh.Tris) + cap(a.Texture.Texels)
			if e == api.OK || m != (api.Manifest{}) || !isZero(a) || lists != 0 || room != 0 {
				t.Errorf("Open of %d bytes with %s is %+v, %+v, %v", len(b), what, m, a, e)
			}
		}
	}
}

// TestExamples are those of the document that a bundle alone shows.
func TestExamples(t *testing.T) {
	l := different()
	b, e := bundle.Seal(l.key, l.base, told(api.AsMesh), meshOf(64, 64))
	if e != api.OK {
		t.Fatal(e)
	}
	turned(b, len(b)-1, len(b), func(_ int, b []byte) {
		expectOpen(t, "a bundle with one bit inverted", l.key, b, api.ErrTag)
	})
	exchanged := slices.Concat(b[:63], b[63+276:63+552], b[63:63+276], b[63+552:])
	expectOpen(t, "a bundle with two chunks exchanged", l.key, exchanged, api.ErrOrder)
	off := meshOf(3, 1)
	off.Mesh.Verts[2].Y = 4097
	expectSeal(t, "a mesh with a corner at 4097", told(api.AsMesh), off, api.ErrGrid)
	plain := encoded(meshOf(3, 1))
	binary.LittleEndian.PutUint16(plain[16:], 4097)
	expectOpen(t, "a mesh with a corner at 4097", l.key, l.bundle(described(1, len(plain)), plain), api.ErrGrid)
	if tag, e := aead.Open(l.key, modelNonce(l.base, 0), b[:47], b[47:63]); e != api.OK || len(tag) != 0 {
		t.Errorf("the manifest's tag opens as %x, %v", tag, e)
	}
}
