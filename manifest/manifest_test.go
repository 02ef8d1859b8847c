package manifest_test

import (
	"bytes"
	"encoding/binary"
	"math"
	"math/big"
	"slices"
	"testing"

	"umbra/api"
	"umbra/manifest"
)

const (
	least = math.MinInt
	most  = math.MaxInt
	last  = math.MaxUint32 // the greatest label and the last time
)

// draws returns a function that draws numbers, the same ones in every run, of all
// sizes and of both signs.
func draws() func() uint64 {
	state := uint64(0x9e3779b97f4a7c15)
	next := func() uint64 {
		state ^= state << 13
		state ^= state >> 7
		state ^= state << 17
		return state
	}
	return func() uint64 { return uint64(int64(next()) >> (next() % 64)) }
}

// kinds are those that there are.
func kinds() []int { return []int{api.AsMesh, api.AsTexture, api.AsMaterial, api.AsLight} }

// badKinds are beside and far from those. Some of them are good ones in 8, 16 or 32 bits.
func badKinds() []int {
	return []int{
		0, 5, 6, 7, 8, 9, 15, 16, 255, 256, 257, 258, 259, 260, 261, 1<<16 + 1, 1<<32 + 1, 1<<32 + 4, 1<<63 - 4,
		-1, -2, -3, -4, -5, -252, -253, -254, -255, -256, -1<<32 + 1, -1<<16 + 2, most, most - 1, least, least + 1, least + 4,
	}
}

// modelCap is the chapter's list.
func modelCap(kind int) int {
	switch kind {
	case 1:
		return 2048
	case 2:
		return 1024
	case 3, 4:
		return 64
	}
	return 0
}

// modelChunks divides numbers without bounds.
func modelChunks(size int) int {
	if size < 1 {
		return 0
	}
	whole, rest := new(big.Int).DivMod(big.NewInt(int64(size)), big.NewInt(256), new(big.Int))
	if rest.Sign() > 0 {
		whole.Add(whole, big.NewInt(1))
	}
	return int(whole.Int64())
}

// modelCheck asks for one fault after the other.
func modelCheck(m api.Manifest) api.Errno {
	if m.Kind != 1 && m.Kind != 2 && m.Kind != 3 && m.Kind != 4 {
		return api.ErrKind
	}
	if slices.Max(m.Masks[:]) >= 16 {
		return api.ErrForm
	}
	if m.To < m.From {
		return api.ErrForm
	}
	if m.Size <= 0 {
		return api.ErrForm
	}
	if m.Size > modelCap(m.Kind) {
		return api.ErrCap
	}
	if m.Chunks != modelChunks(m.Size) {
		return api.ErrForm
	}
	return api.OK
}

// layout returns the bytes of m, each field at its place, cut to its width.
func layout(m api.Manifest) []byte {
	b := make([]byte, 35)
	binary.LittleEndian.PutUint64(b[0:], m.Id)
	b[8] = byte(m.Kind)
	binary.LittleEndian.PutUint32(b[9:], m.Label)
	copy(b[13:21], m.Masks[:])
	binary.LittleEndian.PutUint32(b[21:], m.From)
	binary.LittleEndian.PutUint32(b[25:], m.To)
	binary.LittleEndian.PutUint32(b[29:], uint32(m.Size))
	binary.LittleEndian.PutUint16(b[33:], uint16(m.Chunks))
	return b
}

// parse returns the manifest of which b are the bytes, whatever Check says of it.
func parse(b []byte) api.Manifest {
	return api.Manifest{
		Id:     binary.LittleEndian.Uint64(b[0:]),
		Kind:   int(b[8]),
		Label:  binary.LittleEndian.Uint32(b[9:]),
		Masks:  [8]uint8(b[13:21]),
		From:   binary.LittleEndian.Uint32(b[21:]),
		To:     binary.LittleEndian.Uint32(b[25:]),
		Size:   int(binary.LittleEndian.Uint32(b[29:])),
		Chunks: int(binary.LittleEndian.Uint16(b[33:])),
	}
}

// sized returns a manifest without a fault: of a kind, and of a size up to its cap.
func sized(kind, size int) api.Manifest {
	return api.Manifest{
		Id: 0x1122334455667788, Kind: kind, Label: 0x99aabbcc, Masks: [8]uint8{1, 2, 3, 4, 5, 6, 7, 8},
		From: 0xa1a2a3a4, To: 0xb1b2b3b4, Size: size, Chunks: modelChunks(size),
	}
}

// checkAll holds Check and Encode of m against the model, and Decode of its layout if
// every field fits its place.
func checkAll(t *testing.T, m api.Manifest) {
	t.Helper()
	kept, want := m, modelCheck(m)
	if got := manifest.Check(m); got != want {
		t.Errorf("Check(%+v) = %v, want %v", m, got, want)
	}
	b, e := manifest.Encode(m)
	if e != want || want != api.OK && len(b) != 0 || want == api.OK && !bytes.Equal(b, layout(m)) {
		t.Errorf("Encode(%+v) = %v, %v, want %v", m, b, e, want)
	}
	if m != kept {
		t.Errorf("%+v became %+v", kept, m)
	}
	if parse(layout(m)) == m {
		checkDecode(t, layout(m))
	}
}

// modelDecode returns what Decode promises.
func modelDecode(b []byte) (api.Manifest, api.Errno) {
	if len(b) < 35 {
		return api.Manifest{}, api.ErrShort
	}
	if len(b) > 35 {
		return api.Manifest{}, api.ErrForm
	}
	m := parse(b)
	if e := modelCheck(m); e != api.OK {
		return api.Manifest{}, e
	}
	return m, api.OK
}

// checkDecode holds Decode of b against the model.
func checkDecode(t *testing.T, b []byte) {
	t.Helper()
	kept := slices.Clone(b)
	want, f := modelDecode(b)
	if got, e := manifest.Decode(b); e != f || got != want {
		t.Errorf("Decode(%v) = %+v, %v, want %+v, %v", b, got, e, want, f)
	}
	if !bytes.Equal(b, kept) {
		t.Errorf("Decode changed %v to %v", kept, b)
	}
}

func TestCap(t *testing.T) {
	for _, x := range []struct{ kind, want int }{
		{api.AsMesh, 2048}, {api.AsTexture, 1024}, {api.AsMaterial, 64}, {api.AsLight, 64},
		{1, 2048}, {2, 1024}, {3, 64}, {4, 64}, {0, 0}, {5, 0}, {-1, 0}, {-4, 0}, {most, 0}, {least, 0},
	} {
		if got := manifest.Cap(x.kind); got != x.want {
			t.Errorf("Cap(%d) = %d, want %d", x.kind, got, x.want)
		}
	}
	for _, kind := range badKinds() {
		if got := manifest.Cap(kind); got != 0 {
			t.Errorf("Cap(%d) = %d", kind, got)
		}
	}
	for kind := -1000; kind <= 1000; kind++ {
		if got := manifest.Cap(kind); got != modelCap(kind) {
			t.Errorf("Cap(%d) = %d, want %d", kind, got, modelCap(kind))
		}
	}
}

func TestChunks(t *testing.T) {
	for _, x := range []struct{ size, want int }{
		{40, 1}, {257, 2}, // the chapter's examples
		{0, 0}, {-1, 0}, {-255, 0}, {-256, 0}, {-257, 0}, {-512, 0}, {-1 << 32, 0}, {least, 0}, {least + 1, 0}, {least + 255, 0},
		{1, 1}, {2, 1}, {64, 1}, {255, 1}, {256, 1}, {257, 2}, {258, 2}, {511, 2}, {512, 2}, {513, 3},
		{1023, 4}, {1024, 4}, {1025, 5}, {2047, 8}, {2048, 8}, {2049, 9}, {1 << 16, 256}, {1<<16 + 1, 257}, {1 << 32, 1 << 24},
		{most, 1 << 55}, {most - 1, 1 << 55}, {most - 254, 1 << 55}, {most - 255, 1<<55 - 1}, {most - 256, 1<<55 - 1},
	} {
		if got := manifest.Chunks(x.size); got != x.want {
			t.Errorf("Chunks(%d) = %d, want %d", x.size, got, x.want)
		}
	}
	draw := draws()
	for size := -3000; size < 70000; size++ {
		for _, n := range []int{size, int(draw())} {
			if got := manifest.Chunks(n); got != modelChunks(n) {
				t.Errorf("Chunks(%d) = %d, want %d", n, got, modelChunks(n))
			}
		}
	}
}

func TestLength(t *testing.T) {
	if got := manifest.Length(); got != 35 {
		t.Errorf("Length() = %d", got)
	}
	for _, kind := range kinds() {
		for _, size := range []int{1, modelCap(kind)} {
			if b, e := manifest.Encode(sized(kind, size)); e != api.OK || len(b) != manifest.Length() {
				t.Errorf("%d bytes of kind %d: %d bytes, %v", size, kind, len(b), e)
			}
		}
	}
}

// TestCheckOfOneFault changes one field of a manifest that has no fault.
func TestCheckOfOneFault(t *testing.T) {
	good := sized(api.AsMesh, 600)
	for _, x := range []struct {
		what   string
		change func(m *api.Manifest)
		want   api.Errno
	}{
		{"nothing", func(m *api.Manifest) {}, api.OK},
		{"id 0", func(m *api.Manifest) { m.Id = 0 }, api.OK},
		{"the greatest id", func(m *api.Manifest) { m.Id = math.MaxUint64 }, api.OK},
		{"label 0", func(m *api.Manifest) { m.Label = 0 }, api.OK},
		{"the greatest label", func(m *api.Manifest) { m.Label = last }, api.OK},
		{"kind 0", func(m *api.Manifest) { m.Kind = 0 }, api.ErrKind},
		{"kind 5", func(m *api.Manifest) { m.Kind = 5 }, api.ErrKind},
		{"kind -1", func(m *api.Manifest) { m.Kind = -1 }, api.ErrKind},
		{"no masks", func(m *api.Manifest) { m.Masks = [8]uint8{} }, api.OK},
		{"full masks", func(m *api.Manifest) { m.Masks = [8]uint8{15, 15, 15, 15, 15, 15, 15, 15} }, api.OK},
		{"mask 16 first", func(m *api.Manifest) { m.Masks[0] = 16 }, api.ErrForm},
		{"mask 16 last", func(m *api.Manifest) { m.Masks[7] = 16 }, api.ErrForm},
		{"mask 255", func(m *api.Manifest) { m.Masks[3] = 255 }, api.ErrForm},
		{"all time", func(m *api.Manifest) { m.From, m.To = 0, last }, api.OK},
		{"the first moment", func(m *api.Manifest) { m.From, m.To = 0, 0 }, api.OK},
		{"the last moment", func(m *api.Manifest) { m.From, m.To = last, last }, api.OK},
		{"a moment between", func(m *api.Manifest) { m.From, m.To = 7, 7 }, api.OK},
		{"from 1 to 0", func(m *api.Manifest) { m.From, m.To = 1, 0 }, api.ErrForm},
		{"from 8 to 7", func(m *api.Manifest) { m.From, m.To = 8, 7 }, api.ErrForm},
		{"from the end", func(m *api.Manifest) { m.From, m.To = last, last-1 }, api.ErrForm},
		{"from the end to 0", func(m *api.Manifest) { m.From, m.To = last, 0 }, api.ErrForm},
		{"from half of all", func(m *api.Manifest) { m.From, m.To = 1<<31, 1<<31-1 }, api.ErrForm},
		{"up to half of all", func(m *api.Manifest) { m.From, m.To = 1<<31-1, 1<<31 }, api.OK},
		{"size 0", func(m *api.Manifest) { m.Size, m.Chunks = 0, 0 }, api.ErrForm},
		{"size -1", func(m *api.Manifest) { m.Size, m.Chunks = -1, 0 }, api.ErrForm},
		{"the least size", func(m *api.Manifest) { m.Size, m.Chunks = least, 0 }, api.ErrForm},
		{"size 1", func(m *api.Manifest) { m.Size, m.Chunks = 1, 1 }, api.OK},
		{"the cap", func(m *api.Manifest) { m.Size, m.Chunks = 2048, 8 }, api.OK},
		{"above the cap", func(m *api.Manifest) { m.Size, m.Chunks = 2049, 9 }, api.ErrCap},
		{"the greatest size", func(m *api.Manifest) { m.Size, m.Chunks = most, 1<<55 }, api.ErrCap},
		{"a size of 32 bits more", func(m *api.Manifest) { m.Size += 1 << 32 }, api.ErrCap},
		{"no chunk", func(m *api.Manifest) { m.Chunks = 0 }, api.ErrForm},
		{"a chunk too few", func(m *api.Manifest) { m.Chunks = 2 }, api.ErrForm},
		{"a chunk too many", func(m *api.Manifest) { m.Chunks = 4 }, api.ErrForm},
		{"chunks below 0", func(m *api.Manifest) { m.Chunks = -3 }, api.ErrForm},
		{"16 bits of chunks more", func(m *api.Manifest) { m.Chunks += 1 << 16 }, api.ErrForm},
		{"32 bits of chunks more", func(m *api.Manifest) { m.Chunks += 1 << 32 }, api.ErrForm},
		{"the least chunks", func(m *api.Manifest) { m.Chunks = least }, api.ErrForm},
	} {
		m := good
		x.change(&m)
		if got := manifest.Check(m); got != x.want {
			t.Errorf("%s: Check(%+v) = %v, want %v", x.what, m, got, x.want)
		}
		checkAll(t, m)
	}
	if got := manifest.Check(api.Manifest{}); got != api.ErrKind {
		t.Errorf("Check of the zero manifest = %v", got)
	}
}

func TestCheckOfEachKind(t *testing.T) {
	for _, kind := range badKinds() {
		for _, size := range []int{1, 40, 64, 65} {
			m := sized(kind, size)
			if got := manifest.Check(m); got != api.ErrKind {
				t.Errorf("Check(%+v) = %v", m, got)
			}
			checkAll(t, m)
		}
	}
	for _, kind := range kinds() {
		capOf := modelCap(kind)
		sizes := []int{least, least + 1, -257, -256, -1, 0, 1, 2, 63, 64, 65, 255, 256, 257, 511, 512, 513, 1023, 1024, 1025, 2047, 2048, 2049, 1<<32 + 1, most - 1, most}
		for _, size := range sizes {
			want := api.OK
			if size < 1 {
				want = api.ErrForm
			} else if size > capOf {
				want = api.ErrCap
			}
			m := sized(kind, size)
			if got := manifest.Check(m); got != want {
				t.Errorf("Check(%+v) = %v, want %v", m, got, want)
			}
			checkAll(t, m)
		}
	}
}

// TestCheckOfChunks tries, for each size that each kind may have, the right number of
// chunks and those beside it.
func TestCheckOfChunks(t *testing.T) {
	for _, kind := range kinds() {
		for size := 1; size <= modelCap(kind); size++ {
			m := sized(kind, size)
			right := m.Chunks
			if got := manifest.Check(m); got != api.OK {
				t.Errorf("Check(%+v) = %v", m, got)
			}
			for _, chunks := range []int{right - 1, right + 1, 0, -right, right + 1<<16, right - 1<<16, right + 1<<32, size, most, least} {
				m.Chunks = chunks
				if chunks == right {
					continue
				}
				if got := manifest.Check(m); got != api.ErrForm {
					t.Errorf("Check(%+v) = %v", m, got)
				}
			}
		}
	}
}

func TestCheckOfEachMask(t *testing.T) {
	for layer := range 8 {
		for mask := range 256 {
			for _, others := range []uint8{0, 1, 8, 15} {
				m := sized(api.AsTexture, 300)
				for i := range m.Masks {
					m.Masks[i] = others
				}
				m.Masks[layer] = uint8(mask)
				want := api.OK
				if mask > 15 {
					want = api.ErrForm
				}
				if got := manifest.Check(m); got != want {
					t.Errorf("Check of the masks %v = %v, want %v", m.Masks, got, want)
				}
				checkAll(t, m)
			}
		}
	}
}

// TestSeveralFaults brings the faults together: the kind's, then a mask, the window and
// a size below 1, then the cap, then the chunks.
func TestSeveralFaults(t *testing.T) {
	badMask := [8]uint8{5: 16}
	for _, x := range []struct {
		m    api.Manifest
		want api.Errno
	}{
		{api.Manifest{Kind: 0, Masks: badMask, From: 1, Size: 0, Chunks: 9}, api.ErrKind},
		{api.Manifest{Kind: 5, Size: 2049, Chunks: 9}, api.ErrKind},
		{api.Manifest{Kind: -1, Size: 1, Chunks: 0}, api.ErrKind},
		{api.Manifest{Kind: 1, Masks: badMask, Size: 2049, Chunks: 9}, api.ErrForm},
		{api.Manifest{Kind: 2, From: 1, Size: 1025, Chunks: 5}, api.ErrForm},
		{api.Manifest{Kind: 3, From: 1, Size: 65, Chunks: 2}, api.ErrForm},
		{api.Manifest{Kind: 4, Size: 65, Chunks: 1}, api.ErrCap},
		{api.Manifest{Kind: 4, Size: 65, Chunks: 0}, api.ErrCap},
		{api.Manifest{Kind: 3, Size: 257, Chunks: 1}, api.ErrCap},
		{api.Manifest{Kind: 2, Size: 1025, Chunks: 4}, api.ErrCap},
		{api.Manifest{Kind: 1, Size: most, Chunks: 0}, api.ErrCap},
		{api.Manifest{Kind: 1, Size: 2048, Chunks: 9}, api.ErrForm},
		{api.Manifest{Kind: 1, Size: 0, Chunks: 1}, api.ErrForm},
		{api.Manifest{Kind: 1, Size: -1, Chunks: -1}, api.ErrForm},
	} {
		if got := manifest.Check(x.m); got != x.want {
			t.Errorf("Check(%+v) = %v, want %v", x.m, got, x.want)
		}
		checkAll(t, x.m)
	}
	for _, kind := range []int{-1, 0, 1, 2, 3, 4, 5, 257, 1<<32 + 1} {
		for _, masks := range [][8]uint8{{}, {7: 15}, {0: 16}, {7: 16}, {15, 15, 15, 255, 15, 15, 15, 15}} {
			for _, window := range [][2]uint32{{0, 0}, {0, last}, {5, 6}, {6, 5}, {last, 0}} {
				for _, size := range []int{least, -1, 0, 1, 64, 65, 256, 257, 1024, 1025, 2048, 2049, 1 << 31, 1 << 32, most} {
					for _, chunks := range []int{0, 1, modelChunks(size) - 1, modelChunks(size), modelChunks(size) + 1} {
						checkAll(t, api.Manifest{
							Id: 1, Kind: kind, Label: 2, Masks: masks, From: window[0], To: window[1], Size: size, Chunks: chunks,
						})
					}
				}
			}
		}
	}
}

// TestTheBytes writes encodings out.
func TestTheBytes(t *testing.T) {
	for _, x := range []struct {
		m    api.Manifest
		want []byte
	}{
		{
			api.Manifest{
				Id: 0x0102030405060708, Kind: api.AsMesh, Label: 0x11121314, Masks: [8]uint8{9, 10, 11, 12, 13, 14, 15, 8},
				From: 0x21222324, To: 0x31323334, Size: 0x0607, Chunks: 7,
			},
			[]byte{
				8, 7, 6, 5, 4, 3, 2, 1, 1, 0x14, 0x13, 0x12, 0x11, 9, 10, 11, 12, 13, 14, 15, 8,
				0x24, 0x23, 0x22, 0x21, 0x34, 0x33, 0x32, 0x31, 7, 6, 0, 0, 7, 0,
			},
		},
		{
			api.Manifest{Kind: api.AsTexture, Size: 1, Chunks: 1},
			[]byte{0, 0, 0, 0, 0, 0, 0, 0, 2, 0, 0, 0, 0, 0, 0, 0, 0, 0, 0, 0, 0, 0, 0, 0, 0, 0, 0, 0, 0, 1, 0, 0, 0, 1, 0},
		},
		{
			api.Manifest{
				Id: math.MaxUint64, Kind: api.AsLight, Label: last, Masks: [8]uint8{15, 15, 15, 15, 15, 15, 15, 15},
				From: last, To: last, Size: 64, Chunks: 1,
			},
			[]byte{
				255, 255, 255, 255, 255, 255, 255, 255, 4, 255, 255, 255, 255, 15, 15, 15, 15, 15, 15, 15, 15,
				255, 255, 255, 255, 255, 255, 255, 255, 64, 0, 0, 0, 1, 0,
			},
		},
		{
			api.Manifest{
				Id: 1 << 63, Kind: api.AsMaterial, Label: 1 << 31, Masks: [8]uint8{0: 1, 7: 8}, From: 1, To: 1 << 31, Size: 40, Chunks: 1,
			},
			[]byte{0, 0, 0, 0, 0, 0, 0, 128, 3, 0, 0, 0, 128, 1, 0, 0, 0, 0, 0, 0, 8, 1, 0, 0, 0, 0, 0, 0, 128, 40, 0, 0, 0, 1, 0},
		},
		{
			api.Manifest{Id: 256, Kind: api.AsMesh, Label: 1, To: 65536, Size: 2048, Chunks: 8},
			[]byte{0, 1, 0, 0, 0, 0, 0, 0, 1, 1, 0, 0, 0, 0, 0, 0, 0, 0, 0, 0, 0, 0, 0, 0, 0, 0, 0, 1, 0, 0, 8, 0, 0, 8, 0},
		},
	} {
		got, e := manifest.Encode(x.m)
		if e != api.OK || !bytes.Equal(got, x.want) {
			t.Errorf("Encode(%+v) = %v, %v, want %v", x.m, got, e, x.want)
		}
		back, e := manifest.Decode(x.want)
		if e != api.OK || back != x.m {
			t.Errorf("Decode(%v) = %+v, %v, want %+v", x.want, back, e, x.m)
		}
		checkAll(t, x.m)
	}
}

// TestDecodeOfAnotherLength decodes each proper prefix of encodings, good ones and bad
// ones, and bytes behind them.
func TestDecodeOfAnotherLength(t *testing.T) {
	bad := sized(api.AsMesh, 600)
	bad.Kind, bad.Masks, bad.Size = 0, [8]uint8{255}, 0
	encodings := [][]byte{
		layout(sized(api.AsMesh, 2048)), layout(sized(api.AsLight, 40)), layout(sized(api.AsLight, 65)), layout(bad),
		make([]byte, 35), bytes.Repeat([]byte{255}, 35),
	}
	for _, b := range encodings {
		for length := range 35 {
			got, e := manifest.Decode(b[:length])
			if e != api.ErrShort || got != (api.Manifest{}) {
				t.Errorf("Decode(%v) = %+v, %v", b[:length], got, e)
			}
			checkDecode(t, b[:length:length])
		}
		for _, more := range []int{1, 2, 3, 34, 35, 36, 70, 221, 256, 65536} {
			for _, fill := range []byte{0, 1, 255} {
				got, e := manifest.Decode(slices.Concat(b, bytes.Repeat([]byte{fill}, more)))
				if e != api.ErrForm || got != (api.Manifest{}) {
					t.Errorf("Decode(%v and %d more) = %+v, %v", b, more, got, e)
				}
			}
		}
		checkDecode(t, slices.Concat(b, b))
		checkDecode(t, b)
	}
	for _, b := range [][]byte{nil, {}} {
		if got, e := manifest.Decode(b); e != api.ErrShort || got != (api.Manifest{}) {
			t.Errorf("Decode of nothing = %+v, %v", got, e)
		}
	}
}

// TestDecodeOfFaults puts each fault into the bytes of manifests without one.
func TestDecodeOfFaults(t *testing.T) {
	for _, x := range []struct {
		what  string
		at    int
		bytes []byte
		want  api.Errno
	}{
		{"no change", 8, []byte{1}, api.OK},
		{"kind 0", 8, []byte{0}, api.ErrKind},
		{"kind 5", 8, []byte{5}, api.ErrKind},
		{"kind 255", 8, []byte{255}, api.ErrKind},
		{"a light above its cap", 8, []byte{4}, api.ErrCap},
		{"the first mask", 13, []byte{16}, api.ErrForm},
		{"the last mask", 20, []byte{16}, api.ErrForm},
		{"a mask of 255", 16, []byte{255}, api.ErrForm},
		{"a window that ends at once", 21, []byte{9, 0, 0, 0, 9, 0, 0, 0}, api.OK},
		{"a window that ends before", 21, []byte{9, 0, 0, 0, 8, 0, 0, 0}, api.ErrForm},
		{"a window that ends long before", 21, []byte{0, 0, 0, 1, 255, 255, 255, 0}, api.ErrForm},
		{"size 0", 29, []byte{0, 0, 0, 0, 0, 0}, api.ErrForm},
		{"a size of all ones", 29, []byte{255, 255, 255, 255}, api.ErrCap},
		{"a size of half of all", 29, []byte{0, 0, 0, 128}, api.ErrCap},
		{"one above the cap", 29, []byte{1, 8, 0, 0, 9, 0}, api.ErrCap},
		{"one above the cap, a chunk too few", 29, []byte{1, 8, 0, 0, 8, 0}, api.ErrCap},
		{"the cap", 29, []byte{0, 8, 0, 0, 8, 0}, api.OK},
		{"the cap, a chunk too many", 29, []byte{0, 8, 0, 0, 9, 0}, api.ErrForm},
		{"no chunks", 33, []byte{0, 0}, api.ErrForm},
		{"a chunk too few", 33, []byte{2, 0}, api.ErrForm},
		{"a chunk too many", 33, []byte{4, 0}, api.ErrForm},
		{"chunks of all ones", 33, []byte{255, 255}, api.ErrForm},
		{"chunks with a high byte", 33, []byte{3, 1}, api.ErrForm},
	} {
		b := layout(sized(api.AsMesh, 600))
		copy(b[x.at:], x.bytes)
		got, e := manifest.Decode(b)
		if e != x.want || e != api.OK && got != (api.Manifest{}) || e == api.OK && got != parse(b) {
			t.Errorf("%s: Decode(%v) = %+v, %v, want %v", x.what, b, got, e, x.want)
		}
		checkDecode(t, b)
	}
}

// TestEachByte puts each value at each place of an encoding.
func TestEachByte(t *testing.T) {
	for _, m := range []api.Manifest{sized(api.AsMesh, 2048), sized(api.AsTexture, 256), sized(api.AsLight, 1)} {
		for at := range 35 {
			for value := range 256 {
				b := layout(m)
				b[at] = byte(value)
				checkDecode(t, b)
				if got, e := manifest.Decode(b); e == api.OK {
					if again, f := manifest.Encode(got); f != api.OK || !bytes.Equal(again, b) {
						t.Errorf("%v comes back as %v, %v", b, again, f)
					}
				}
			}
		}
	}
}

// drawn returns a manifest that has a fault seldom.
func drawn(draw func() uint64) api.Manifest {
	m := api.Manifest{Id: draw(), Kind: kinds()[draw()%4], Label: uint32(draw()), From: uint32(draw()), To: uint32(draw())}
	for i := range m.Masks {
		m.Masks[i] = uint8(draw() & 15)
	}
	if m.From > m.To && draw()%8 != 0 {
		m.From, m.To = m.To, m.From
	}
	m.Size = 1 + int(draw()%uint64(modelCap(m.Kind)))
	m.Chunks = modelChunks(m.Size)
	switch draw() % 16 {
	case 0:
		m.Kind = int(draw())
	case 1:
		m.Masks[draw()%8] = uint8(draw())
	case 2:
		m.Size = int(draw())
	case 3:
		m.Chunks = int(draw())
	case 4:
		m.Size, m.Chunks = m.Size*4, modelChunks(m.Size*4)
	}
	return m
}

func TestThereAndBack(t *testing.T) {
	draw := draws()
	good := 0
	for range 50000 {
		m := drawn(draw)
		checkAll(t, m)
		b, e := manifest.Encode(m)
		if e != api.OK {
			continue
		}
		good++
		if back, e := manifest.Decode(b); e != api.OK || back != m {
			t.Errorf("%+v comes back as %+v, %v", m, back, e)
		}
	}
	if good < 10000 {
		t.Errorf("only %d manifests without a fault were drawn", good)
	}
}

// TestEachSizeThereAndBack goes over all kinds and sizes.
func TestEachSizeThereAndBack(t *testing.T) {
	for _, kind := range kinds() {
		for size := 1; size <= modelCap(kind); size++ {
			m := sized(kind, size)
			b, e := manifest.Encode(m)
			if e != api.OK {
				t.Fatalf("Encode(%+v): %v", m, e)
			}
			if back, e := manifest.Decode(b); e != api.OK || back != m {
				t.Errorf("%+v comes back as %+v, %v", m, back, e)
			}
		}
	}
}

// TestOneFieldDiffers changes a single bit of a field, or a field that has no bits to
// spare, and asks which bytes become different.
func TestOneFieldDiffers(t *testing.T) {
	base := sized(api.AsMesh, 40)
	base.From, base.To = 0, last // of which each bit may change alone
	first, e := manifest.Encode(base)
	if e != api.OK {
		t.Fatal(e)
	}
	check := func(what string, m api.Manifest, from, to int) {
		t.Helper()
		b, e := manifest.Encode(m)
		if e != api.OK || bytes.Equal(b, first) {
			t.Errorf("%s: Encode(%+v) = %v, %v", what, m, b, e)
			return
		}
		for i := range b {
			if b[i] != first[i] && (i < from || i >= to) {
				t.Errorf("%s: byte %d is %d, was %d", what, i, b[i], first[i])
			}
		}
	}
	for bit := range 64 {
		m := base
		m.Id ^= 1 << bit
		check("id", m, bit/8, bit/8+1)
	}
	for _, kind := range []int{2, 3, 4} {
		m := base
		m.Kind = kind
		check("kind", m, 8, 9)
	}
	for bit := range 32 {
		m := base
		m.Label ^= 1 << bit
		check("label", m, 9+bit/8, 10+bit/8)
		m = base
		m.From ^= 1 << bit
		check("from", m, 21+bit/8, 22+bit/8)
		m = base
		m.To ^= 1 << bit
		check("to", m, 25+bit/8, 26+bit/8)
	}
	for layer := range 8 {
		for bit := range 4 {
			m := base
			m.Masks[layer] ^= 1 << bit
			check("mask", m, 13+layer, 14+layer)
		}
	}
	for size := 1; size <= 256; size++ {
		m := base
		if m.Size = size; size != 40 {
			check("size", m, 29, 31)
		}
	}
	m := base
	m.Size, m.Chunks = 296, 2
	check("size and chunks", m, 30, 34)
}

// TestAllAreDifferent encodes drawn manifests: there are as many encodings.
func TestAllAreDifferent(t *testing.T) {
	draw := draws()
	manifests, encodings := map[api.Manifest]bool{}, map[string]bool{}
	for range 20000 {
		m := drawn(draw)
		m.Id, m.Label, m.From = m.Id&1, m.Label&1, m.From&1 // near each other
		m.To |= 1
		if b, e := manifest.Encode(m); e == api.OK {
			manifests[m], encodings[string(b)] = true, true
		}
	}
	if len(manifests) != len(encodings) || len(manifests) < 1000 {
		t.Errorf("%d manifests have %d encodings", len(manifests), len(encodings))
	}
}

// TestMemory changes what was handed in and what was returned.
func TestMemory(t *testing.T) {
	m := sized(api.AsMesh, 600)
	want := layout(m)
	memory := slices.Concat(want, []byte{0xaa, 0xaa, 0xaa})
	got, e := manifest.Decode(memory[:35])
	if e != api.OK || got != m || !bytes.Equal(memory, append(slices.Clone(want), 0xaa, 0xaa, 0xaa)) {
		t.Errorf("Decode with room behind: %+v, %v, of %v", got, e, memory)
	}
	for i := range memory {
		memory[i] = 0xbb
	}
	if got != m {
		t.Errorf("the manifest is %+v when its bytes are changed", got)
	}
	b, _ := manifest.Encode(m)
	m.Id, m.Masks[0] = 0, 0
	if !bytes.Equal(b, want) {
		t.Errorf("the bytes are %v when the manifest is changed", b)
	}
	again, _ := manifest.Encode(got)
	for i := range b[:cap(b)] {
		b[:cap(b)][i] = 0xcc
	}
	_ = append(b, 0xcc)
	if !bytes.Equal(again, want) {
		t.Errorf("the bytes are %v when others are changed", again)
	}
	if third, e := manifest.Encode(got); e != api.OK || !bytes.Equal(third, want) {
		t.Errorf("Encode = %v, %v, when what it returned before is changed", third, e)
	}
	got.Masks[0] = 9
	if twice, e := manifest.Decode(want); e != api.OK || twice.Masks[0] != 1 {
		t.Errorf("Decode = %+v, %v, when what it returned before is changed", twice, e)
	}
}

// TestErrorsAsNumbers holds the errors against their numbers.
func TestErrorsAsNumbers(t *testing.T) {
	good := sized(api.AsLight, 40)
	changed := func(at int, b ...byte) []byte {
		all := layout(good)
		copy(all[at:], b)
		return all
	}
	for _, x := range []struct {
		b    []byte
		want int
	}{
		{layout(good), 0}, {nil, 4}, {append(layout(good), 0), 5},
		{changed(8, 9), 12}, {changed(13, 16), 5}, {changed(29, 65), 9}, {changed(33, 2), 5},
	} {
		if _, e := manifest.Decode(x.b); int(e) != x.want {
			t.Errorf("Decode(%v): error %d, want %d", x.b, int(e), x.want)
		}
	}
}
