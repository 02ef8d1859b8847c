package asset_test

import (
	"bytes"
	"encoding/binary"
	"math"
	"reflect"
	"slices"
	"testing"

	"umbra/api"
	"umbra/asset"
	"umbra/manifest"
	"umbra/mesh"
	"umbra/texture"
)

const (
	least = math.MinInt
	most  = math.MaxInt
)

// kinds are those of assets.
var kinds = []int{1, 2, 3, 4}

// noKinds are numbers that are no kind of an asset; some are one in their lowest bits.
var noKinds = []int{
	-1, 0, 5, -2, -3, -4, 6, 7, 8, 16, 127, 128, 255, 256, 257, 258, 260, -252, -255, 65537, -65535,
	1<<32 + 1, 1<<32 + 4, -1<<32 + 1, -1<<32 + 3, least, least + 1, least + 4, most, most - 1,
}

// draws returns a function that draws numbers, the same ones in every run, of all
// sizes and of both signs.
func draws() func() uint64 {
	state := uint64(0x9e3779b97f4a7c15)
	next := func() uint64 {
		state ^= state << 13
		state ^= state >> 7
		state ^= state << 17
		return state
	}
	return func() uint64 { return uint64(int64(next()) >> (next() % 64)) }
}

// The parts of good assets: their numbers are all different, and some of those that may
// be negative are.

func goodMesh() api.Mesh {
	return api.Mesh{
		Verts: []api.Point{{X: 0x0102, Y: -2, Z: 0x0304}, {X: -4096, Y: 0x0506, Z: 4096}, {X: 0x0708, Y: -0x0109, Z: 9}, {X: -1, Y: 12, Z: 0x0a0b}},
		Uvs:   [][2]int{{0, 65535}, {0x1112, 0x1314}, {0xf1f2, 0x8000}, {0x7fff, 14}},
		Tris:  [][3]int{{0, 3, 2}, {1, 2, 0}},
	}
}

func goodTexture() api.Texture {
	return api.Texture{Side: 2, Texels: [][3]int{{10, 11, 12}, {20, 255, 22}, {30, 31, 0}, {40, 41, 128}}}
}

func goodMaterial() api.Material {
	return api.Material{Kind: 2, Color: [3]int{0x0103, 0xf4f5, 0x8607}, Rough: 0x7809}
}

func goodLight() api.Light {
	return api.Light{
		Kind:  1,
		Color: [3]int{0x0a0b0c, 0x0fedcb, 0x010203},
		At:    api.Point{X: 0x0104, Y: -2, Z: 0x0e0f},
		U:     api.Point{X: -4096, Y: 0x0506, Z: -0x0708},
		V:     api.Point{X: 4095, Y: -0x0d11, Z: 0x0213},
	}
}

// good returns an asset of a kind without a fault, and its bytes.
func good(kind int) (api.Asset, []byte) {
	switch kind {
	case 1:
		return api.Asset{Kind: 1, Mesh: goodMesh()}, []byte{
			4, 2,
			0x02, 0x01, 0xfe, 0xff, 0x04, 0x03,
			0x00, 0xf0, 0x06, 0x05, 0x00, 0x10,
			0x08, 0x07, 0xf7, 0xfe, 0x09, 0x00,
			0xff, 0xff, 0x0c, 0x00, 0x0b, 0x0a,
			0x00, 0x00, 0xff, 0xff,
			0x12, 0x11, 0x14, 0x13,
			0xf2, 0xf1, 0x00, 0x80,
			0xff, 0x7f, 0x0e, 0x00,
			0, 3, 2,
			1, 2, 0,
		}
	case 2:
		return api.Asset{Kind: 2, Texture: goodTexture()}, []byte{2, 10, 11, 12, 20, 255, 22, 30, 31, 0, 40, 41, 128}
	case 3:
		return api.Asset{Kind: 3, Material: goodMaterial()}, []byte{2, 0x03, 0x01, 0xf5, 0xf4, 0x07, 0x86, 0x09, 0x78}
	}
	return api.Asset{Kind: 4, Light: goodLight()}, []byte{
		1,
		0x0c, 0x0b, 0x0a, 0x00, 0xcb, 0xed, 0x0f, 0x00, 0x03, 0x02, 0x01, 0x00,
		0x04, 0x01, 0xfe, 0xff, 0x0f, 0x0e,
		0x00, 0xf0, 0x06, 0x05, 0xf8, 0xf8,
		0xff, 0x0f, 0xef, 0xf2, 0x13, 0x02,
	}
}

// of returns good's asset alone.
func of(kind int) api.Asset {
	a, _ := good(kind)
	return a
}

// everything is an asset of a kind with all four parts.
func everything(kind int) api.Asset {
	return api.Asset{Kind: kind, Mesh: goodMesh(), Texture: goodTexture(), Material: goodMaterial(), Light: goodLight()}
}

// clone returns a copy that shares nothing.
func clone(a api.Asset) api.Asset {
	a.Mesh.Verts = slices.Clone(a.Mesh.Verts)
	a.Mesh.Uvs = slices.Clone(a.Mesh.Uvs)
	a.Mesh.Tris = slices.Clone(a.Mesh.Tris)
	a.Texture.Texels = slices.Clone(a.Texture.Texels)
	return a
}

// plain returns a with nil for each empty list.
func plain(a api.Asset) api.Asset {
	if len(a.Mesh.Verts) == 0 {
		a.Mesh.Verts = nil
	}
	if len(a.Mesh.Uvs) == 0 {
		a.Mesh.Uvs = nil
	}
	if len(a.Mesh.Tris) == 0 {
		a.Mesh.Tris = nil
	}
	if len(a.Texture.Texels) == 0 {
		a.Texture.Texels = nil
	}
	return a
}

// modelSame returns what Same promises.
func modelSame(a, b api.Asset) bool { return reflect.DeepEqual(plain(a), plain(b)) }

// isZero tells whether a is the asset beside an error.
func isZero(a api.Asset) bool { return modelSame(a, api.Asset{}) }

// numbers returns where the numbers of a light are: its colour, and the components of
// At, U and V.
func numbers(l *api.Light) (color []*int, components []*int) {
	for i := range l.Color {
		color = append(color, &l.Color[i])
	}
	for _, p := range []*api.Point{&l.At, &l.U, &l.V} {
		components = append(components, &p.X, &p.Y, &p.Z)
	}
	return color, components
}

// The model asks for one fault after the other, number by number.
func modelMaterial(m api.Material) api.Errno {
	if !slices.Contains([]int{0, 1, 2, 3, 4}, m.Kind) {
		return api.ErrForm
	}
	for _, n := range []int{m.Color[0], m.Color[1], m.Color[2], m.Rough} {
		if int(uint16(n)) != n {
			return api.ErrForm
		}
	}
	return api.OK
}

func modelLight(l api.Light) api.Errno {
	color, components := numbers(&l)
	for _, n := range color {
		if *n != max(0, min(*n, 1048576)) {
			return api.ErrForm
		}
	}
	if !slices.Contains([]int{0, 1, 2}, l.Kind) {
		return api.ErrForm
	}
	for _, n := range components {
		if *n != max(-4096, min(*n, 4096)) {
			return api.ErrGrid
		}
	}
	for i, n := range components {
		may := l.Kind == 1 || l.Kind == 0 && i < 3
		if *n != 0 && !may {
			return api.ErrForm
		}
	}
	return api.OK
}

// modelPart returns the error of the part for a kind.
func modelPart(a api.Asset, kind int) api.Errno {
	switch kind {
	case 1:
		return mesh.Check(a.Mesh)
	case 2:
		return texture.Check(a.Texture)
	case 3:
		return modelMaterial(a.Material)
	}
	return modelLight(a.Light)
}

// hasPart tells whether the part for a kind is not zero.
func hasPart(a api.Asset, kind int) bool {
	switch kind {
	case 1:
		return len(a.Mesh.Verts)+len(a.Mesh.Uvs)+len(a.Mesh.Tris) > 0
	case 2:
		return a.Texture.Side != 0 || len(a.Texture.Texels) > 0
	case 3:
		return !reflect.ValueOf(a.Material).IsZero()
	}
	return !reflect.ValueOf(a.Light).IsZero()
}

func modelCheck(a api.Asset) api.Errno {
	if !slices.Contains(kinds, a.Kind) {
		return api.ErrKind
	}
	if e := modelPart(a, a.Kind); e != api.OK {
		return e
	}
	for _, kind := range kinds {
		if kind != a.Kind && hasPart(a, kind) {
			return api.ErrForm
		}
	}
	if len(layout(a)) > []int{0, 2048, 1024, 64, 64}[a.Kind] {
		return api.ErrCap
	}
	return api.OK
}

// layout returns the bytes of a, each number at its place, cut to its width.
func layout(a api.Asset) []byte {
	var b bytes.Buffer
	put := func(x any) { binary.Write(&b, binary.LittleEndian, x) }
	place := func(p api.Point) { put([]int16{int16(p.X), int16(p.Y), int16(p.Z)}) }
	switch a.Kind {
	case 1:
		put([]uint8{uint8(len(a.Mesh.Verts)), uint8(len(a.Mesh.Tris))})
		for _, p := range a.Mesh.Verts {
			place(p)
		}
		for _, uv := range a.Mesh.Uvs {
			put([]uint16{uint16(uv[0]), uint16(uv[1])})
		}
		for _, t := range a.Mesh.Tris {
			put([]uint8{uint8(t[0]), uint8(t[1]), uint8(t[2])})
		}
	case 2:
		put(uint8(a.Texture.Side))
		for _, t := range a.Texture.Texels {
			put([]uint8{uint8(t[0]), uint8(t[1]), uint8(t[2])})
		}
	case 3:
		m := a.Material
		put(uint8(m.Kind))
		put([]uint16{uint16(m.Color[0]), uint16(m.Color[1]), uint16(m.Color[2]), uint16(m.Rough)})
	case 4:
		l := a.Light
		put(uint8(l.Kind))
		put([]uint32{uint32(l.Color[0]), uint32(l.Color[1]), uint32(l.Color[2])})
		place(l.At)
		place(l.U)
		place(l.V)
	}
	return b.Bytes()
}

// modelLength returns how many bytes an asset of that kind has whose encoding begins as
// b does; the second result tells whether b tells it.
func modelLength(kind int, b []byte) (int, bool) {
	switch kind {
	case 1:
		if len(b) < 2 {
			return 0, false
		}
		return 2 + 10*int(b[0]) + 3*int(b[1]), true
	case 2:
		if len(b) < 1 {
			return 0, false
		}
		return 1 + 3*int(b[0])*int(b[0]), true
	case 3:
		return 9, true
	}
	return 31, true
}

// modelRead returns what the bytes of an asset of that kind mean, with a fault or not.
func modelRead(kind int, b []byte) api.Asset {
	at := 0
	number := func(width int) (n int) {
		for i := range width {
			n += int(b[at+i]) << (8 * i)
		}
		at += width
		return n
	}
	place := func() api.Point {
		x, y, z := int16(number(2)), int16(number(2)), int16(number(2))
		return api.Point{X: int(x), Y: int(y), Z: int(z)}
	}
	three := func(width int) [3]int {
		x, y, z := number(width), number(width), number(width)
		return [3]int{x, y, z}
	}
	a := api.Asset{Kind: kind}
	switch kind {
	case 1:
		verts, tris := number(1), number(1)
		for range verts {
			a.Mesh.Verts = append(a.Mesh.Verts, place())
		}
		for range verts {
			u, v := number(2), number(2)
			a.Mesh.Uvs = append(a.Mesh.Uvs, [2]int{u, v})
		}
		for range tris {
			a.Mesh.Tris = append(a.Mesh.Tris, three(1))
		}
	case 2:
		a.Texture.Side = number(1)
		for at < len(b) {
			a.Texture.Texels = append(a.Texture.Texels, three(1))
		}
	case 3:
		a.Material.Kind = number(1)
		a.Material.Color = three(2)
		a.Material.Rough = number(2)
	case 4:
		a.Light.Kind = number(1)
		a.Light.Color = three(4)
		a.Light.At = place()
		a.Light.U = place()
		a.Light.V = place()
	}
	return a
}

// modelDecode returns what Decode promises.
func modelDecode(kind int, b []byte) (api.Asset, api.Errno) {
	if !slices.Contains(kinds, kind) {
		return api.Asset{}, api.ErrKind
	}
	length, told := modelLength(kind, b)
	if !told || len(b) < length {
		return api.Asset{}, api.ErrShort
	}
	if len(b) > length {
		return api.Asset{}, api.ErrForm
	}
	a := modelRead(kind, b)
	if e := modelCheck(a); e != api.OK {
		return api.Asset{}, e
	}
	return a, api.OK
}

// checkAll holds all calls for a against the model.
func checkAll(t *testing.T, a api.Asset) {
	t.Helper()
	kept, want := clone(a), modelCheck(a)
	if got := asset.Material(a.Material); got != modelMaterial(a.Material) {
		t.Errorf("Material(%v) = %v", a.Material, got)
	}
	if got := asset.Light(a.Light); got != modelLight(a.Light) {
		t.Errorf("Light(%v) = %v", a.Light, got)
	}
	if got := asset.Check(a); got != want {
		t.Errorf("Check(%v) = %v, want %v", a, got, want)
	}
	b, e := asset.Encode(a)
	if e != want || want != api.OK && len(b) != 0 || want == api.OK && !bytes.Equal(b, layout(a)) {
		t.Errorf("Encode(%v) = %v, %v, want %v", a, b, e, want)
	}
	if want == api.OK {
		if back, e := asset.Decode(a.Kind, b); e != api.OK || !modelSame(back, a) || !asset.Same(back, a) {
			t.Errorf("%v comes back as %v, %v", a, back, e)
		}
		checkDecode(t, a.Kind, b)
	}
	if !asset.Same(a, a) || !asset.Same(a, kept) || !asset.Same(kept, a) {
		t.Errorf("%v is not the same as itself", a)
	}
	if !modelSame(a, kept) {
		t.Errorf("%v became %v", kept, a)
	}
}

// checkDecode holds Decode of b against the model, and Encode against b.
func checkDecode(t *testing.T, kind int, b []byte) {
	t.Helper()
	kept := slices.Clone(b)
	want, f := modelDecode(kind, b)
	got, e := asset.Decode(kind, b)
	if e != f || !modelSame(got, want) {
		t.Errorf("Decode(%d, %v) = %v, %v, want %v, %v", kind, b, got, e, want, f)
	}
	if e == api.OK {
		if again, e := asset.Encode(got); e != api.OK || !bytes.Equal(again, b) {
			t.Errorf("%v of kind %d comes back as %v, %v", b, kind, again, e)
		}
	}
	if !bytes.Equal(b, kept) {
		t.Errorf("Decode changed %v to %v", kept, b)
	}
}

// expect holds Check and Encode against want.
func expect(t *testing.T, what string, a api.Asset, want api.Errno) {
	t.Helper()
	if got := asset.Check(a); got != want {
		t.Errorf("%s: Check(%v) = %v, want %v", what, a, got, want)
	}
	if b, e := asset.Encode(a); e != want || (len(b) == 0) != (want != api.OK) {
		t.Errorf("%s: Encode(%v) = %v, %v, want %v", what, a, b, e, want)
	}
	checkAll(t, a)
}

// expectMaterial holds Material, and Check of it as an asset, against want.
func expectMaterial(t *testing.T, m api.Material, want api.Errno) {
	t.Helper()
	if got := asset.Material(m); got != want {
		t.Errorf("Material(%v) = %v, want %v", m, got, want)
	}
	expect(t, "a material", api.Asset{Kind: 3, Material: m}, want)
}

// expectLight does the same with a light.
func expectLight(t *testing.T, what string, l api.Light, want api.Errno) {
	t.Helper()
	if got := asset.Light(l); got != want {
		t.Errorf("%s: Light(%v) = %v, want %v", what, l, got, want)
	}
	expect(t, what, api.Asset{Kind: 4, Light: l}, want)
}

// TestModel holds the model's layout and its opposite against the bytes of good.
func TestModel(t *testing.T) {
	for _, kind := range kinds {
		a, b := good(kind)
		if got := layout(a); !bytes.Equal(got, b) {
			t.Errorf("the layout of %v is %v, want %v", a, got, b)
		}
		if got := modelRead(kind, b); !reflect.DeepEqual(got, a) {
			t.Errorf("%v means %v, want %v", b, got, a)
		}
		if e := modelCheck(a); e != api.OK {
			t.Errorf("%v: %v", a, e)
		}
	}
}

func TestMaterialKinds(t *testing.T) {
	for _, numbers := range []api.Material{{}, goodMaterial(), {Color: [3]int{65535, 65535, 65535}, Rough: 65535}} {
		for kind := 0; kind <= 4; kind++ {
			m := numbers
			m.Kind = kind
			expectMaterial(t, m, api.OK)
		}
		for _, kind := range []int{-1, 5, 6, -2, -4, 7, 8, 255, 256, 257, -256, -255, 65536, 1 << 32, 1<<32 + 2, -1 << 32, -1<<32 + 4, least, least + 1, most, most - 1} {
			m := numbers
			m.Kind = kind
			expectMaterial(t, m, api.ErrForm)
		}
	}
}

func TestMaterialNumbers(t *testing.T) {
	valid := []int{0, 1, 255, 256, 32767, 32768, 65534, 65535}
	faults := []int{
		-1, -2, -255, -256, -32768, -65535, -65536, -65537, 65536, 65537, 131071, 1 << 20, 1 << 31, -1 << 31,
		1 << 32, 1<<32 + 5, 1<<32 + 65535, -1 << 32, -1<<32 + 5, 1 << 62, least, least + 1, least + 65535, most, most - 1, most - 65535,
	}
	for _, kind := range []int{-1, 0, 1, 2, 3, 4, 5, 6, least, most} {
		for _, start := range []api.Material{{}, goodMaterial()} {
			start.Kind = kind
			want := api.OK
			if kind < 0 || kind > 4 {
				want = api.ErrForm
			}
			for i := range 4 {
				set := func(n int) api.Material {
					m := start
					*[]*int{&m.Color[0], &m.Color[1], &m.Color[2], &m.Rough}[i] = n
					return m
				}
				for _, n := range valid {
					expectMaterial(t, set(n), want)
				}
				for _, n := range faults {
					expectMaterial(t, set(n), api.ErrForm)
				}
			}
		}
	}
	// What lies out of bounds on both sides is not mended by its sum.
	expectMaterial(t, api.Material{Color: [3]int{-1, 65536, 0}}, api.ErrForm)
	expectMaterial(t, api.Material{Color: [3]int{0, -1, 1}, Rough: 65536}, api.ErrForm)
}

// sparse returns a light of a kind with all that the kind may have, and no more.
func sparse(kind int) api.Light {
	l := goodLight()
	l.Kind = kind
	if kind != 1 {
		l.U, l.V = api.Point{}, api.Point{}
	}
	if kind == 2 {
		l.At = api.Point{}
	}
	return l
}

// noLights are numbers that are no kind of a light.
var noLights = []int{-1, 3, 4, -2, -3, 5, 8, 255, 256, 257, 258, -256, -255, 65537, 1 << 32, 1<<32 + 1, -1 << 32, -1<<32 + 2, least, least + 1, least + 2, most, most - 1}

func TestLightKinds(t *testing.T) {
	for kind := 0; kind <= 2; kind++ {
		expectLight(t, "a kind", sparse(kind), api.OK)
		expectLight(t, "nothing but a kind", api.Light{Kind: kind}, api.OK)
	}
	for _, kind := range noLights {
		expectLight(t, "nothing but no kind", api.Light{Kind: kind}, api.ErrForm)
		for other := 0; other <= 2; other++ {
			l := sparse(other)
			l.Kind = kind
			expectLight(t, "no kind", l, api.ErrForm)
			l.At.X, l.V.Z = 4097, -4097
			expectLight(t, "no kind, and off the grid", l, api.ErrForm)
		}
	}
}

func TestLightColors(t *testing.T) {
	valid := []int{0, 1, 255, 65535, 65536, 1<<20 - 1, 1 << 20}
	faults := []int{
		-1, -2, -65536, -1 << 20, -1<<20 - 1, 1<<20 + 1, 1<<20 + 2, 1 << 21, 1 << 24, 1<<31 - 1, 1 << 31, -1 << 31, 1<<32 - 1, 1 << 32, 1<<32 + 5, 1<<32 + 1<<20,
		-1 << 32, -1<<32 + 5, 1 << 62, least, least + 1, least + 1<<20, most, most - 1, most - 1<<20,
	}
	for _, kind := range []int{-1, 0, 1, 2, 3, 4, least, most} {
		want := api.OK
		if kind < 0 || kind > 2 {
			want = api.ErrForm
		}
		for i := range 3 {
			for _, start := range []api.Light{sparse(kind), {Kind: kind}} {
				for _, n := range valid {
					start.Color[i] = n
					expectLight(t, "a colour", start, want)
				}
				for _, n := range faults {
					start.Color[i] = n
					expectLight(t, "a colour out of bounds", start, api.ErrForm)
				}
			}
		}
	}
	expectLight(t, "a colour out of bounds on both sides", api.Light{Color: [3]int{-1, 1<<20 + 1, 0}}, api.ErrForm)
}

// TestLightComponents puts each number at each component of At, U and V, of each kind.
func TestLightComponents(t *testing.T) {
	within := []int{-4096, -4095, -256, -255, -1, 0, 1, 255, 256, 4095, 4096}
	beyond := []int{
		-4097, -4098, 4097, 4098, 8192, -8192, 32767, 32768, -32768, -32769, 65535, 65536, 65537, -65536, 1 << 31, -1 << 31,
		1 << 32, 1<<32 + 1, -1 << 32, -1<<32 + 1, 1 << 62, least, least + 1, least + 4096, most, most - 1, most - 4096,
	}
	for _, kind := range []int{-1, 0, 1, 2, 3, 4, least, most} {
		for component := range 9 {
			// By kind: an area may have all, a point At alone, an environment none.
			may := kind == 1 || kind == 0 && component < 3
			for _, start := range []api.Light{sparse(kind), {Kind: kind}} {
				set := func(n int) api.Light {
					l := start
					_, components := numbers(&l)
					*components[component] = n
					return l
				}
				for _, n := range within {
					want := api.OK
					if kind < 0 || kind > 2 || n != 0 && !may {
						want = api.ErrForm
					}
					expectLight(t, "a component", set(n), want)
				}
				for _, n := range beyond {
					want := api.ErrGrid
					if kind < 0 || kind > 2 {
						want = api.ErrForm
					}
					expectLight(t, "a component off the grid", set(n), want)
				}
			}
		}
	}
}

// lightFault is a fault of a rank, which is its place in the chapter's order.
type lightFault struct {
	rank int
	err  api.Errno
	put  func(l *api.Light)
}

// lightFaults returns faults of every rank, for a light of a kind.
func lightFaults(kind int) []lightFault {
	var list []lightFault
	for _, n := range []int{-1, 3, least, most} {
		list = append(list, lightFault{0, api.ErrForm, func(l *api.Light) { l.Kind = n }})
	}
	for i := range 3 {
		for _, n := range []int{-1, 1<<20 + 1, least, most} {
			list = append(list, lightFault{0, api.ErrForm, func(l *api.Light) { l.Color[i] = n }})
		}
	}
	for i := range 9 {
		set := func(n int) func(l *api.Light) {
			return func(l *api.Light) {
				_, components := numbers(l)
				*components[i] = n
			}
		}
		for _, n := range []int{-4097, 4097, least, most} {
			list = append(list, lightFault{1, api.ErrGrid, set(n)})
		}
		if kind == 2 || kind == 0 && i >= 3 {
			list = append(list, lightFault{2, api.ErrForm, set(-4096)}, lightFault{2, api.ErrForm, set(1)})
		}
	}
	return list
}

// TestLightOrder puts two faults, and three, into one light: the first one is told.
func TestLightOrder(t *testing.T) {
	for kind := 0; kind <= 2; kind++ {
		all := lightFaults(kind)
		for _, first := range all {
			l := sparse(kind)
			first.put(&l)
			expectLight(t, "one fault", l, first.err)
			for _, second := range all {
				l := sparse(kind)
				second.put(&l)
				first.put(&l)
				if first.rank < second.rank {
					expectLight(t, "two faults", l, first.err)
				}
				checkAll(t, api.Asset{Kind: 4, Light: l})
			}
		}
		for _, first := range all {
			for _, second := range all {
				for i, third := range all {
					if first.rank == 0 && second.rank == 1 && third.rank == 2 && i%5 == 0 {
						l := sparse(kind)
						third.put(&l)
						second.put(&l)
						first.put(&l)
						if e := asset.Light(l); e != api.ErrForm || e != modelLight(l) {
							t.Errorf("Light(%v) = %v", l, e)
						}
					}
				}
			}
		}
	}
	// A component off the grid is told ahead of one that may not be, whichever of them
	// comes first.
	for _, x := range []api.Light{
		{Kind: 2, At: api.Point{X: 1}, V: api.Point{Z: 4097}},
		{Kind: 2, At: api.Point{X: 1, Z: -4097}},
		{Kind: 2, At: api.Point{X: -4097}, U: api.Point{Y: 1}},
		{Kind: 0, U: api.Point{X: 1}, V: api.Point{X: 4097}},
		{Kind: 0, At: api.Point{Y: 4097}, U: api.Point{X: 1}},
		{Kind: 0, At: api.Point{Y: 4097}},
		{Kind: 1, V: api.Point{Y: -4097}},
	} {
		expectLight(t, "off the grid", x, api.ErrGrid)
	}
}

func TestCheckOfKinds(t *testing.T) {
	for _, kind := range kinds {
		expect(t, "a good asset", of(kind), api.OK)
		expect(t, "nothing but a kind", api.Asset{Kind: kind}, []api.Errno{api.OK, api.ErrForm, api.ErrForm, api.OK, api.OK}[kind])
		expect(t, "all parts", everything(kind), api.ErrForm)
		for _, other := range kinds {
			a := of(other)
			a.Kind = kind
			if kind != other {
				expect(t, "the part for another kind", a, api.ErrForm)
			}
		}
	}
	for _, kind := range noKinds {
		expect(t, "nothing but no kind", api.Asset{Kind: kind}, api.ErrKind)
		expect(t, "all parts of no kind", everything(kind), api.ErrKind)
		for _, other := range kinds {
			a := of(other)
			a.Kind = kind
			expect(t, "no kind", a, api.ErrKind)
		}
		for _, x := range ownFaults() {
			x.a.Kind = kind
			expect(t, x.what+", of no kind", x.a, api.ErrKind)
		}
	}
	expect(t, "the zero asset", api.Asset{}, api.ErrKind)
}

// fault is an asset, and its error.
type fault struct {
	what string
	a    api.Asset
	want api.Errno
}

// ownFaults returns assets of each kind with each of the errors that the part for it
// can have.
func ownFaults() []fault {
	list := []fault{}
	in := func(kind int, what string, want api.Errno, change func(a *api.Asset)) {
		a := of(kind)
		change(&a)
		list = append(list, fault{what, a, want})
	}
	in(1, "65 vertices", api.ErrLong, func(a *api.Asset) { a.Mesh.Verts = make([]api.Point, 65) })
	in(1, "65 triangles", api.ErrLong, func(a *api.Asset) { a.Mesh.Tris = make([][3]int, 65) })
	in(1, "no vertices", api.ErrForm, func(a *api.Asset) { a.Mesh.Verts, a.Mesh.Uvs = nil, nil })
	in(1, "no triangles", api.ErrForm, func(a *api.Asset) { a.Mesh.Tris = [][3]int{} })
	in(1, "one of Uvs too few", api.ErrForm, func(a *api.Asset) { a.Mesh.Uvs = a.Mesh.Uvs[:3] })
	in(1, "no mesh", api.ErrForm, func(a *api.Asset) { a.Mesh = api.Mesh{} })
	in(1, "a vertex off the grid", api.ErrGrid, func(a *api.Asset) { a.Mesh.Verts[3].Z = 4097 })
	in(1, "Uvs out of bounds", api.ErrForm, func(a *api.Asset) { a.Mesh.Uvs[0][1] = 65536 })
	in(1, "a corner that is no vertex", api.ErrForm, func(a *api.Asset) { a.Mesh.Tris[1][0] = 4 })
	in(1, "equal corners", api.ErrForm, func(a *api.Asset) { a.Mesh.Tris[0][1] = 0 })
	in(2, "a side of 3", api.ErrForm, func(a *api.Asset) { a.Texture = api.Texture{Side: 3, Texels: make([][3]int, 9)} })
	in(2, "a texel too few", api.ErrForm, func(a *api.Asset) { a.Texture.Texels = a.Texture.Texels[:3] })
	in(2, "a texel out of bounds", api.ErrForm, func(a *api.Asset) { a.Texture.Texels[3][2] = 256 })
	in(2, "no texture", api.ErrForm, func(a *api.Asset) { a.Texture = api.Texture{} })
	in(3, "no kind of a material", api.ErrForm, func(a *api.Asset) { a.Material.Kind = 5 })
	in(3, "a colour of a material out of bounds", api.ErrForm, func(a *api.Asset) { a.Material.Color[1] = 65536 })
	in(3, "a material that is too rough", api.ErrForm, func(a *api.Asset) { a.Material.Rough = -1 })
	in(4, "no kind of a light", api.ErrForm, func(a *api.Asset) { a.Light.Kind = 3 })
	in(4, "a colour of a light out of bounds", api.ErrForm, func(a *api.Asset) { a.Light.Color[2] = 1<<20 + 1 })
	in(4, "a light off the grid", api.ErrGrid, func(a *api.Asset) { a.Light.At.X = -4097 })
	in(4, "a side of a light off the grid", api.ErrGrid, func(a *api.Asset) { a.Light.V.Z = 4097 })
	in(4, "a point with sides", api.ErrForm, func(a *api.Asset) { a.Light.Kind = 0 })
	in(4, "an environment with a place", api.ErrForm, func(a *api.Asset) { a.Light.Kind, a.Light.U, a.Light.V = 2, api.Point{}, api.Point{} })
	return list
}

// addition is something that the part for a kind has.
type addition struct {
	kind int
	what string
	add  func(a *api.Asset)
}

// additions returns them one at a time: each makes a part that is zero one that is not.
func additions() []addition {
	list := []addition{
		{1, "a mesh", func(a *api.Asset) { a.Mesh = goodMesh() }},
		{1, "a mesh with a vertex alone", func(a *api.Asset) { a.Mesh.Verts = make([]api.Point, 1) }},
		{1, "a mesh with Uvs alone", func(a *api.Asset) { a.Mesh.Uvs = make([][2]int, 1) }},
		{1, "a mesh with a triangle alone", func(a *api.Asset) { a.Mesh.Tris = make([][3]int, 1) }},
		{1, "a mesh with many vertices alone", func(a *api.Asset) { a.Mesh.Verts = make([]api.Point, 5000) }},
		{2, "a texture", func(a *api.Asset) { a.Texture = goodTexture() }},
		{2, "a texel and no Side", func(a *api.Asset) { a.Texture.Texels = make([][3]int, 1) }},
		{2, "many texels and no Side", func(a *api.Asset) { a.Texture.Texels = make([][3]int, 5000) }},
		{3, "a material", func(a *api.Asset) { a.Material = goodMaterial() }},
		{4, "a light", func(a *api.Asset) { a.Light = goodLight() }},
	}
	for _, n := range []int{1, -1, 2, 256, 1 << 32, least, most} {
		list = append(list,
			addition{2, "a Side and no texels", func(a *api.Asset) { a.Texture.Side = n }},
			addition{3, "a kind of a material", func(a *api.Asset) { a.Material.Kind = n }},
			addition{3, "a rough material", func(a *api.Asset) { a.Material.Rough = n }},
			addition{4, "a kind of a light", func(a *api.Asset) { a.Light.Kind = n }},
		)
		for i := range 3 {
			list = append(list, addition{3, "a colour of a material", func(a *api.Asset) { a.Material.Color[i] = n }})
			list = append(list, addition{4, "a colour of a light", func(a *api.Asset) { a.Light.Color[i] = n }})
		}
		for i := range 9 {
			list = append(list, addition{4, "a component of a light", func(a *api.Asset) {
				_, components := numbers(&a.Light)
				*components[i] = n
			}})
		}
	}
	return list
}

// emptied returns a with empty lists instead of nil, for each that set has a bit for.
func emptied(a api.Asset, set int) api.Asset {
	if set&1 != 0 && len(a.Mesh.Verts) == 0 {
		a.Mesh.Verts = []api.Point{}
	}
	if set&2 != 0 && len(a.Mesh.Uvs) == 0 {
		a.Mesh.Uvs = make([][2]int, 0, 3)
	}
	if set&4 != 0 && len(a.Mesh.Tris) == 0 {
		a.Mesh.Tris = [][3]int{}
	}
	if set&8 != 0 && len(a.Texture.Texels) == 0 {
		a.Texture.Texels = make([][3]int, 0, 1)
	}
	return a
}

// TestCheckOfOtherParts puts something into each part for another kind.
func TestCheckOfOtherParts(t *testing.T) {
	for _, kind := range kinds {
		for set := range 16 {
			expect(t, "empty lists", emptied(of(kind), set), api.OK)
		}
		for _, x := range additions() {
			if x.kind == kind {
				continue
			}
			a := of(kind)
			x.add(&a)
			expect(t, x.what, a, api.ErrForm)
			expect(t, x.what+", with empty lists", emptied(a, 15), api.ErrForm)
		}
	}
	// Two that are not zero do not make up for each other.
	a := of(3)
	a.Texture.Side, a.Light.Kind = 1, -1
	expect(t, "two parts too many", a, api.ErrForm)
}

// TestCheckOfFaults puts a fault into an asset's own part, alone and with something in
// another part: that of its own part is told.
func TestCheckOfFaults(t *testing.T) {
	for _, x := range ownFaults() {
		expect(t, x.what, x.a, x.want)
		for set := range 16 {
			expect(t, x.what+", with empty lists", emptied(x.a, set), x.want)
		}
		for _, y := range additions() {
			if y.kind == x.a.Kind {
				continue
			}
			a := clone(x.a)
			y.add(&a)
			expect(t, x.what+" and "+y.what, a, x.want)
		}
	}
}

// meshOf returns a mesh of so many vertices and triangles.
func meshOf(verts, tris int) api.Asset {
	a := api.Asset{Kind: 1}
	for i := range verts {
		a.Mesh.Verts = append(a.Mesh.Verts, api.Point{X: 63*i - 2000, Y: 2000 - 57*i, Z: 11*i + 5})
		a.Mesh.Uvs = append(a.Mesh.Uvs, [2]int{900*i + 3, 60000 - 700*i})
	}
	for i := range tris {
		a.Mesh.Tris = append(a.Mesh.Tris, [3]int{i % verts, (i + 1) % verts, (i + 2) % verts})
	}
	return a
}

// textureOf returns a texture of a side with so many texels.
func textureOf(side, texels int) api.Asset {
	a := api.Asset{Kind: 2, Texture: api.Texture{Side: side, Texels: make([][3]int, texels)}}
	for i := range a.Texture.Texels {
		for color := range 3 {
			a.Texture.Texels[i][color] = (3*i + color) * 37 % 256
		}
	}
	return a
}

// TestCheckOfLengths finds that the greatest asset of each kind has fewer bytes than the
// cap of its kind, so that there is no ErrCap: what is longer has a fault of its part,
// which is told first.
func TestCheckOfLengths(t *testing.T) {
	for _, x := range []struct {
		a      api.Asset
		length int
	}{
		{meshOf(64, 64), 834}, {meshOf(3, 1), 35}, {meshOf(64, 1), 645}, {meshOf(3, 64), 224},
		{textureOf(16, 256), 769}, {textureOf(8, 64), 193}, {textureOf(1, 1), 4},
		{of(3), 9}, {api.Asset{Kind: 3, Material: api.Material{Kind: 4, Color: [3]int{65535, 65535, 65535}, Rough: 65535}}, 9},
		{of(4), 31}, {api.Asset{Kind: 4}, 31},
	} {
		expect(t, "within the cap", x.a, api.OK)
		b, e := asset.Encode(x.a)
		if e != api.OK || len(b) != x.length || len(b) >= manifest.Cap(x.a.Kind) {
			t.Errorf("kind %d: %d bytes, %v", x.a.Kind, len(b), e)
		}
	}
	for _, x := range []struct {
		a    api.Asset
		want api.Errno
	}{
		// Encodings of 2048 bytes, of 2049 and of many more, if there were such.
		{meshOf(3, 672), api.ErrLong}, {meshOf(4, 669), api.ErrLong}, {meshOf(64, 500), api.ErrLong}, {meshOf(204, 2), api.ErrLong}, {meshOf(1000, 1000), api.ErrLong},
		// Encodings of 1024 bytes, of 1027 and of many more.
		{textureOf(16, 341), api.ErrForm}, {textureOf(16, 342), api.ErrForm}, {textureOf(32, 1024), api.ErrForm}, {textureOf(64, 4096), api.ErrForm},
	} {
		expect(t, "beyond the cap", x.a, x.want)
	}
}

func TestEncode(t *testing.T) {
	for _, kind := range kinds {
		a, want := good(kind)
		if b, e := asset.Encode(a); e != api.OK || !bytes.Equal(b, want) {
			t.Errorf("Encode(%v) = %v, %v, want %v", a, b, e, want)
		}
		if back, e := asset.Decode(kind, want); e != api.OK || !reflect.DeepEqual(back, a) {
			t.Errorf("Decode(%d, %v) = %v, %v, want %v", kind, want, back, e, a)
		}
		checkAll(t, a)
	}
	// Meshes and textures have the bytes of their own layers.
	for _, m := range []api.Asset{of(1), meshOf(3, 1), meshOf(64, 64), meshOf(5, 40)} {
		want, _ := mesh.Encode(m.Mesh)
		if b, e := asset.Encode(m); e != api.OK || !bytes.Equal(b, want) {
			t.Errorf("Encode(%v) = %v, %v, want %v", m, b, e, want)
		}
	}
	for _, side := range []int{1, 2, 4, 8, 16} {
		x := textureOf(side, side*side)
		want, _ := texture.Encode(x.Texture)
		if b, e := asset.Encode(x); e != api.OK || !bytes.Equal(b, want) {
			t.Errorf("Encode(%v) = %v, %v, want %v", x, b, e, want)
		}
	}
}

// TestLengths is the example of the chapter.
func TestLengths(t *testing.T) {
	for kind := 0; kind <= 4; kind++ {
		if b, e := asset.Encode(api.Asset{Kind: 3, Material: api.Material{Kind: kind}}); e != api.OK || len(b) != 9 {
			t.Errorf("a material has %d bytes, %v", len(b), e)
		}
	}
	for kind := 0; kind <= 2; kind++ {
		if b, e := asset.Encode(api.Asset{Kind: 4, Light: sparse(kind)}); e != api.OK || len(b) != 31 {
			t.Errorf("a light has %d bytes, %v", len(b), e)
		}
	}
}

// TestWhereNumbersStand sets one number of a material and of a light, and asks which
// bytes become different.
func TestWhereNumbersStand(t *testing.T) {
	hold := func(a api.Asset, first []byte, at int, bytesThere []byte) {
		t.Helper()
		want := slices.Clone(first)
		copy(want[at:], bytesThere)
		if b, e := asset.Encode(a); e != api.OK || !bytes.Equal(b, want) {
			t.Errorf("Encode(%v) = %v, %v, want %v", a, b, e, want)
		}
		if back, e := asset.Decode(a.Kind, want); e != api.OK || !reflect.DeepEqual(back, a) {
			t.Errorf("Decode(%d, %v) = %v, %v, want %v", a.Kind, want, back, e, a)
		}
	}
	for i := range 4 {
		for n, there := range map[int][]byte{0: {0, 0}, 1: {1, 0}, 0x1234: {0x34, 0x12}, 0x8000: {0, 0x80}, 65535: {255, 255}} {
			a, first := good(3)
			*[]*int{&a.Material.Color[0], &a.Material.Color[1], &a.Material.Color[2], &a.Material.Rough}[i] = n
			hold(a, first, 1+2*i, there)
		}
	}
	for i := range 3 {
		for n, there := range map[int][]byte{0: {0, 0, 0, 0}, 1: {1, 0, 0, 0}, 0x012345: {0x45, 0x23, 1, 0}, 1 << 20: {0, 0, 16, 0}} {
			a, first := good(4)
			a.Light.Color[i] = n
			hold(a, first, 1+4*i, there)
		}
	}
	for i := range 9 {
		for n, there := range map[int][]byte{0: {0, 0}, 1: {1, 0}, -1: {255, 255}, -256: {0, 255}, 0x0abc: {0xbc, 0x0a}, 4096: {0, 16}, -4096: {0, 240}} {
			a, first := good(4)
			_, components := numbers(&a.Light)
			*components[i] = n
			hold(a, first, 13+2*i, there)
		}
	}
	for kind := 0; kind <= 4; kind++ {
		a, first := good(3)
		a.Material.Kind = kind
		hold(a, first, 0, []byte{byte(kind)})
	}
	for kind := 0; kind <= 2; kind++ {
		a := api.Asset{Kind: 4, Light: api.Light{Kind: kind}}
		hold(a, make([]byte, 31), 0, []byte{byte(kind)})
	}
}

func TestDecodeOfNoKinds(t *testing.T) {
	for _, kind := range noKinds {
		for _, b := range [][]byte{nil, {}, {0}, {1}, make([]byte, 9), make([]byte, 31), make([]byte, 5000)} {
			if a, e := asset.Decode(kind, b); e != api.ErrKind || !isZero(a) {
				t.Errorf("Decode(%d, %v) = %v, %v", kind, b, a, e)
			}
		}
		for _, other := range kinds {
			_, b := good(other)
			if a, e := asset.Decode(kind, b); e != api.ErrKind || !isZero(a) {
				t.Errorf("Decode(%d, %v) = %v, %v", kind, b, a, e)
			}
			checkDecode(t, kind, b)
		}
	}
}

// TestDecodeOfAnotherLength decodes each proper prefix of encodings, and bytes behind
// them.
func TestDecodeOfAnotherLength(t *testing.T) {
	wholes := []api.Asset{meshOf(3, 1), meshOf(64, 64), textureOf(1, 1), textureOf(16, 256), {Kind: 3}, {Kind: 4}}
	for _, kind := range kinds {
		wholes = append(wholes, of(kind))
	}
	for _, a := range wholes {
		b := layout(a)
		for length := range len(b) {
			if got, e := asset.Decode(a.Kind, b[:length]); e != api.ErrShort || !isZero(got) {
				t.Errorf("Decode(%d, %v) = %v, %v", a.Kind, b[:length], got, e)
			}
			checkDecode(t, a.Kind, b[:length:length])
		}
		for _, more := range []int{1, 2, 3, 9, 22, 31, 255, 256, 257, 2048, 65536, 1 << 20} {
			for _, fill := range []byte{0, 1, 255} {
				long := slices.Concat(b, bytes.Repeat([]byte{fill}, more))
				if got, e := asset.Decode(a.Kind, long); e != api.ErrForm || !isZero(got) {
					t.Errorf("Decode(%d, %v and %d more) = %v, %v", a.Kind, b, more, got, e)
				}
			}
		}
		checkDecode(t, a.Kind, slices.Concat(b, b))
		checkDecode(t, a.Kind, b)
	}
	for _, kind := range kinds {
		for _, b := range [][]byte{nil, {}} {
			if a, e := asset.Decode(kind, b); e != api.ErrShort || !isZero(a) {
				t.Errorf("Decode(%d, %v) = %v, %v", kind, b, a, e)
			}
		}
		for _, other := range kinds {
			checkDecode(t, kind, layout(of(other)))
		}
	}
}

// TestDecodeOfFaults puts each fault into the bytes of good assets.
func TestDecodeOfFaults(t *testing.T) {
	for _, x := range []struct {
		what  string
		kind  int
		at    int
		there []byte
		want  api.Errno
	}{
		{"a vertex at 4096", 1, 2, []byte{0, 0x10}, api.OK},
		{"a vertex at 4097", 1, 2, []byte{1, 0x10}, api.ErrGrid},
		{"a vertex at -4097", 1, 24, []byte{0xff, 0xef}, api.ErrGrid},
		{"a corner that is no vertex", 1, 47, []byte{4}, api.ErrForm},
		{"equal corners", 1, 43, []byte{3, 3}, api.ErrForm},
		{"a Side of 1", 2, 0, []byte{1}, api.ErrForm},
		{"a Side of 4", 2, 0, []byte{4}, api.ErrShort},
		{"a Side of 0", 2, 0, []byte{0}, api.ErrForm},
		{"the last kind of a material", 3, 0, []byte{4}, api.OK},
		{"no kind of a material", 3, 0, []byte{5}, api.ErrForm},
		{"kind 255 of a material", 3, 0, []byte{255}, api.ErrForm},
		{"kind 128 of a material", 3, 0, []byte{128}, api.ErrForm},
		{"all numbers of a material at 65535", 3, 1, bytes.Repeat([]byte{255}, 8), api.OK},
		{"all numbers of a material at 0", 3, 1, make([]byte, 8), api.OK},
		{"no kind of a light", 4, 0, []byte{3}, api.ErrForm},
		{"kind 255 of a light", 4, 0, []byte{255}, api.ErrForm},
		{"a point with sides", 4, 0, []byte{0}, api.ErrForm},
		{"an environment with all", 4, 0, []byte{2}, api.ErrForm},
		{"the first colour of a light at 2^20", 4, 1, []byte{0, 0, 16, 0}, api.OK},
		{"the first colour of a light at 2^20 + 1", 4, 1, []byte{1, 0, 16, 0}, api.ErrForm},
		{"the second colour of a light at 2^24", 4, 5, []byte{0, 0, 0, 1}, api.ErrForm},
		{"the last colour of a light at 2^31", 4, 9, []byte{0, 0, 0, 128}, api.ErrForm},
		{"the last colour of a light at 2^32 - 1", 4, 9, []byte{255, 255, 255, 255}, api.ErrForm},
		{"the first component of a light at 4096", 4, 13, []byte{0, 16}, api.OK},
		{"the first component of a light at 4097", 4, 13, []byte{1, 16}, api.ErrGrid},
		{"the first component of a light at -4096", 4, 13, []byte{0, 240}, api.OK},
		{"the first component of a light at -4097", 4, 13, []byte{255, 239}, api.ErrGrid},
		{"a middle component of a light at 32767", 4, 21, []byte{255, 127}, api.ErrGrid},
		{"the last component of a light at -32768", 4, 29, []byte{0, 128}, api.ErrGrid},
		{"the last component of a light at 4097", 4, 29, []byte{1, 16}, api.ErrGrid},
	} {
		_, b := good(x.kind)
		copy(b[x.at:], x.there)
		a, e := asset.Decode(x.kind, b)
		if e != x.want || e != api.OK && !isZero(a) || e == api.OK && !bytes.Equal(layout(a), b) {
			t.Errorf("%s: Decode(%d, %v) = %v, %v, want %v", x.what, x.kind, b, a, e, x.want)
		}
		checkDecode(t, x.kind, b)
		if x.kind == 2 {
			continue // the faults of its length, as the Side tells it
		}
		// A fault of the numbers is told only of bytes that have the right length.
		if a, e := asset.Decode(x.kind, b[:len(b)-1]); e != api.ErrShort || !isZero(a) {
			t.Errorf("%s, and a byte too few: %v, %v", x.what, a, e)
		}
		if a, e := asset.Decode(x.kind, append(b, 0)); e != api.ErrForm || !isZero(a) {
			t.Errorf("%s, and a byte too many: %v, %v", x.what, a, e)
		}
	}
	// Without texels, and without vertices and triangles, there are just enough bytes.
	for _, b := range [][]byte{{0}, {0, 0}} {
		if a, e := asset.Decode(3-len(b), b); e != api.ErrForm || !isZero(a) {
			t.Errorf("Decode(%d, %v) = %v, %v", 3-len(b), b, a, e)
		}
	}
}

// TestDecodeOfEachLight puts something into each component of a light of each kind.
func TestDecodeOfEachLight(t *testing.T) {
	for kind := range 256 {
		for component := -1; component < 9; component++ {
			b := make([]byte, 31)
			b[0] = byte(kind)
			may := kind == 1 || kind == 0 && component < 3 || component < 0
			want := api.ErrForm
			if kind <= 2 && may {
				want = api.OK
			}
			if component >= 0 {
				b[13+2*component] = 1
			}
			if a, e := asset.Decode(4, b); e != want || isZero(a) != (want != api.OK) {
				t.Errorf("Decode(4, %v) = %v, %v, want %v", b, a, e, want)
			}
			checkDecode(t, 4, b)
		}
	}
}

// TestEachByte puts each value at each place of encodings.
func TestEachByte(t *testing.T) {
	for _, kind := range kinds {
		_, whole := good(kind)
		for at := range whole {
			for value := range 256 {
				b := slices.Clone(whole)
				b[at] = byte(value)
				checkDecode(t, kind, b)
			}
		}
	}
}

// differences returns changes, each of which makes all assets that have all parts
// different, in one field, element or length alone.
func differences() map[string]func(a *api.Asset) {
	all := map[string]func(a *api.Asset){
		"the kind":              func(a *api.Asset) { a.Kind++ },
		"a vertex more":         func(a *api.Asset) { a.Mesh.Verts = append(a.Mesh.Verts, api.Point{}) },
		"Uvs more":              func(a *api.Asset) { a.Mesh.Uvs = append(a.Mesh.Uvs, [2]int{}) },
		"a triangle more":       func(a *api.Asset) { a.Mesh.Tris = append(a.Mesh.Tris, [3]int{}) },
		"a texel more":          func(a *api.Asset) { a.Texture.Texels = append(a.Texture.Texels, [3]int{}) },
		"a vertex less":         func(a *api.Asset) { a.Mesh.Verts = a.Mesh.Verts[:3] },
		"the first vertex less": func(a *api.Asset) { a.Mesh.Verts = a.Mesh.Verts[1:] },
		"Uvs less":              func(a *api.Asset) { a.Mesh.Uvs = a.Mesh.Uvs[:3] },
		"a triangle less":       func(a *api.Asset) { a.Mesh.Tris = a.Mesh.Tris[:1] },
		"a texel less":          func(a *api.Asset) { a.Texture.Texels = a.Texture.Texels[:3] },
		"no vertices":           func(a *api.Asset) { a.Mesh.Verts = nil },
		"no Uvs":                func(a *api.Asset) { a.Mesh.Uvs = nil },
		"no triangles":          func(a *api.Asset) { a.Mesh.Tris = nil },
		"no texels":             func(a *api.Asset) { a.Texture.Texels = nil },
		"no mesh":               func(a *api.Asset) { a.Mesh = api.Mesh{} },
		"no texture":            func(a *api.Asset) { a.Texture = api.Texture{} },
		"no material":           func(a *api.Asset) { a.Material = api.Material{} },
		"no light":              func(a *api.Asset) { a.Light = api.Light{} },
		"the Side":              func(a *api.Asset) { a.Texture.Side += 2 },
		"two vertices":          func(a *api.Asset) { a.Mesh.Verts[1], a.Mesh.Verts[2] = a.Mesh.Verts[2], a.Mesh.Verts[1] },
		"two triangles":         func(a *api.Asset) { a.Mesh.Tris[0], a.Mesh.Tris[1] = a.Mesh.Tris[1], a.Mesh.Tris[0] },
		"two texels": func(a *api.Asset) {
			a.Texture.Texels[0], a.Texture.Texels[3] = a.Texture.Texels[3], a.Texture.Texels[0]
		},
		"U and V":           func(a *api.Asset) { a.Light.U, a.Light.V = a.Light.V, a.Light.U },
		"a material's kind": func(a *api.Asset) { a.Material.Kind ^= 1 << 40 },
		"how rough":         func(a *api.Asset) { a.Material.Rough-- },
		"a light's kind":    func(a *api.Asset) { a.Light.Kind = -a.Light.Kind },
	}
	for i := range 3 {
		digit := string(rune('0' + i))
		all["colour "+digit+" of a material"] = func(a *api.Asset) { a.Material.Color[i] ^= least }
		all["colour "+digit+" of a light"] = func(a *api.Asset) { a.Light.Color[i]++ }
	}
	for i := range 9 {
		all["component "+string(rune('0'+i))+" of a light"] = func(a *api.Asset) {
			_, components := numbers(&a.Light)
			*components[i]++
		}
	}
	for place := range 4 {
		digit := string(rune('0' + place))
		all["X of vertex "+digit] = func(a *api.Asset) { a.Mesh.Verts[place].X++ }
		all["Y of vertex "+digit] = func(a *api.Asset) { a.Mesh.Verts[place].Y-- }
		all["Z of vertex "+digit] = func(a *api.Asset) { a.Mesh.Verts[place].Z ^= 1 << 62 }
		for i := range 2 {
			all["a number of Uvs "+digit+string(rune('0'+i))] = func(a *api.Asset) { a.Mesh.Uvs[place][i]++ }
			all["a corner "+digit+string(rune('0'+i))] = func(a *api.Asset) { a.Mesh.Tris[i][place%3]++ }
		}
		for i := range 3 {
			all["a number of texel "+digit+string(rune('0'+i))] = func(a *api.Asset) { a.Texture.Texels[place][i]++ }
		}
	}
	return all
}

// holdSame asks for Same of two assets, either way round.
func holdSame(t *testing.T, what string, a, b api.Asset, want bool) {
	t.Helper()
	keptA, keptB := clone(a), clone(b)
	if got := asset.Same(a, b); got != want || modelSame(a, b) != want {
		t.Errorf("%s: Same(%v, %v) = %v, want %v", what, a, b, got, want)
	}
	if got := asset.Same(b, a); got != want {
		t.Errorf("%s: Same(%v, %v) = %v, want %v", what, b, a, got, want)
	}
	if !modelSame(a, keptA) || !modelSame(b, keptB) {
		t.Errorf("%s: %v and %v became %v and %v", what, keptA, keptB, a, b)
	}
}

func TestSame(t *testing.T) {
	list := []api.Asset{{}, everything(0), everything(1), everything(2), everything(3), everything(4), meshOf(64, 64), textureOf(16, 256)}
	for _, kind := range append(kinds, noKinds...) {
		list = append(list, api.Asset{Kind: kind})
	}
	for _, kind := range kinds {
		list = append(list, of(kind))
	}
	for i, a := range list {
		for j, b := range list {
			holdSame(t, "two of the list", a, b, i == j || modelSame(a, b))
		}
		holdSame(t, "an asset and itself", a, a, true)
		holdSame(t, "an asset and its copy", a, clone(a), true)
	}
	for what, change := range differences() {
		for _, kind := range append(kinds, 0, -1, most) {
			a, b := everything(kind), everything(kind)
			change(&b)
			holdSame(t, what, a, b, false)
			change(&a)
			holdSame(t, what+", of both", a, b, true)
		}
	}
}

// TestSameOfZero finds that each single number makes an asset other than zero.
func TestSameOfZero(t *testing.T) {
	for _, kind := range append(kinds, noKinds...) {
		for _, x := range additions() {
			a := api.Asset{Kind: kind}
			x.add(&a)
			holdSame(t, x.what, a, api.Asset{Kind: kind}, false)
			b := api.Asset{Kind: kind}
			x.add(&b)
			holdSame(t, x.what, a, b, true)
		}
	}
}

// TestSameOfEmptyLists holds an empty list against nil, and against one that has what
// an empty one has not.
func TestSameOfEmptyLists(t *testing.T) {
	for _, kind := range append(kinds, 0) {
		for one := range 16 {
			for other := range 16 {
				a := api.Asset{Kind: kind, Material: goodMaterial(), Light: goodLight()}
				holdSame(t, "empty lists", emptied(a, one), emptied(a, other), true)
				holdSame(t, "empty lists", emptied(api.Asset{}, one), emptied(api.Asset{}, other), true)
			}
			for _, x := range additions() {
				a := api.Asset{Kind: kind}
				x.add(&a)
				holdSame(t, "empty lists beside "+x.what, emptied(a, one), a, true)
				holdSame(t, "empty lists and "+x.what, emptied(a, one), emptied(api.Asset{Kind: kind}, one), false)
			}
		}
	}
	// What lies behind a list's length is no part of it.
	a, b := everything(1), everything(1)
	a.Mesh.Verts, b.Mesh.Verts = append(a.Mesh.Verts, api.Point{X: 1})[:4], append(b.Mesh.Verts, api.Point{X: 2})[:4]
	a.Texture.Texels = append(a.Texture.Texels, [3]int{1, 2, 3})[:4]
	holdSame(t, "room behind", a, b, true)
	a.Mesh.Tris = a.Mesh.Tris[:1]
	holdSame(t, "a triangle in the room behind", a, b, false)
}

// drawn returns an asset of a kind that has no fault.
func drawn(kind int, draw func() uint64) api.Asset {
	within := func(n int) int { return int(draw() % uint64(n)) }
	place := func() api.Point {
		return api.Point{X: within(8193) - 4096, Y: within(8193) - 4096, Z: within(8193) - 4096}
	}
	a := api.Asset{Kind: kind}
	switch kind {
	case 1:
		a = meshOf(3+within(62), 1+within(64))
		for i := range a.Mesh.Verts {
			a.Mesh.Verts[i] = place()
			a.Mesh.Uvs[i] = [2]int{within(65536), within(65536)}
		}
	case 2:
		side := 1 << within(5)
		a = textureOf(side, side*side)
		for i := range a.Texture.Texels {
			a.Texture.Texels[i] = [3]int{within(256), within(256), within(256)}
		}
	case 3:
		a.Material = api.Material{Kind: within(5), Color: [3]int{within(65536), within(65536), within(65536)}, Rough: within(65536)}
	case 4:
		a.Light = api.Light{Kind: within(3), Color: [3]int{within(1<<20 + 1), within(1<<20 + 1), within(1<<20 + 1)}}
		if a.Light.Kind < 2 {
			a.Light.At = place()
		}
		if a.Light.Kind == 1 {
			a.Light.U, a.Light.V = place(), place()
		}
	}
	return a
}

func TestThereAndBack(t *testing.T) {
	draw := draws()
	for _, kind := range kinds {
		for range 1000 {
			a := drawn(kind, draw)
			checkAll(t, a)
			b, e := asset.Encode(a)
			if e != api.OK {
				t.Fatalf("Encode(%v): %v", a, e)
			}
			back, e := asset.Decode(kind, b)
			if e != api.OK || !asset.Same(back, a) || !reflect.DeepEqual(back, a) {
				t.Errorf("%v comes back as %v, %v", a, back, e)
			}
			if again, e := asset.Encode(back); e != api.OK || !bytes.Equal(again, b) {
				t.Errorf("%v comes back as %v, %v", b, again, e)
			}
			other := drawn(kind, draw)
			holdSame(t, "another one", a, other, modelSame(a, other))
		}
	}
}

// TestDrawnBytes decodes bytes that have about the right length, but seldom an asset.
func TestDrawnBytes(t *testing.T) {
	draw := draws()
	for range 5000 {
		for _, kind := range kinds {
			b := layout(drawn(kind, draw))
			for range draw() % 3 {
				b[draw()%uint64(len(b))] = byte(draw())
			}
			checkDecode(t, kind, b)
			checkDecode(t, kind, b[:len(b)-min(int(draw()%3), len(b))])
			checkDecode(t, 1+int(draw()%4), b)
		}
	}
}

// TestDrawnAssets asks for assets with faults, and with parts for other kinds.
func TestDrawnAssets(t *testing.T) {
	draw := draws()
	faults, more := ownFaults(), additions()
	for range 3000 {
		a := drawn(kinds[draw()%4], draw)
		if draw()%2 == 0 {
			a = clone(faults[draw()%uint64(len(faults))].a)
		}
		for range draw() % 3 {
			x := more[draw()%uint64(len(more))]
			x.add(&a)
		}
		if draw()%4 == 0 {
			a.Kind = int(draw()%7) - 1
		}
		checkAll(t, a)
	}
}

// roomy returns a, of which each list has room behind it with what would be faults.
func roomy(a api.Asset) api.Asset {
	v, u, t, x := len(a.Mesh.Verts), len(a.Mesh.Uvs), len(a.Mesh.Tris), len(a.Texture.Texels)
	a.Mesh.Verts = append(slices.Clone(a.Mesh.Verts), api.Point{X: 9999, Y: 9999, Z: 9999})[:v]
	a.Mesh.Uvs = append(slices.Clone(a.Mesh.Uvs), [2]int{-1, -1})[:u]
	a.Mesh.Tris = append(slices.Clone(a.Mesh.Tris), [3]int{-1, -1, -1})[:t]
	a.Texture.Texels = append(slices.Clone(a.Texture.Texels), [3]int{-1, 256, -1})[:x]
	return a
}

// whole returns a with one element more of each list, from the room behind it.
func whole(a api.Asset) api.Asset {
	a.Mesh.Verts = a.Mesh.Verts[:len(a.Mesh.Verts)+1]
	a.Mesh.Uvs = a.Mesh.Uvs[:len(a.Mesh.Uvs)+1]
	a.Mesh.Tris = a.Mesh.Tris[:len(a.Mesh.Tris)+1]
	a.Texture.Texels = a.Texture.Texels[:len(a.Texture.Texels)+1]
	return a
}

// TestMemoryBehind asks for assets and bytes with room behind them, which is as it was.
func TestMemoryBehind(t *testing.T) {
	list := []api.Asset{everything(0), everything(1), everything(2), everything(3), everything(4), meshOf(64, 64), textureOf(16, 256)}
	for _, kind := range kinds {
		list = append(list, of(kind))
	}
	for _, a := range list {
		r := roomy(a)
		checkAll(t, r)
		if want := roomy(a); !modelSame(whole(r), whole(want)) {
			t.Errorf("%v became %v", whole(want), whole(r))
		}
	}
	for _, kind := range kinds {
		a, b := good(kind)
		memory := slices.Concat(b, []byte{0xaa, 0xbb, 0xcc})
		kept := slices.Clone(memory)
		if got, e := asset.Decode(kind, memory[:len(b)]); e != api.OK || !modelSame(got, a) {
			t.Errorf("Decode with room behind: %v, %v", got, e)
		}
		if got, e := asset.Decode(kind, memory[:len(b)-1]); e != api.ErrShort || !isZero(got) {
			t.Errorf("Decode with the last byte behind: %v, %v", got, e)
		}
		if !bytes.Equal(memory, kept) {
			t.Errorf("%v became %v", kept, memory)
		}
	}
}

// spoil overwrites all that the lists of an asset hold, and the room behind them.
func spoil(a api.Asset) {
	for i := range a.Mesh.Verts[:cap(a.Mesh.Verts)] {
		a.Mesh.Verts[:cap(a.Mesh.Verts)][i] = api.Point{X: 77, Y: 77, Z: 77}
	}
	for i := range a.Mesh.Uvs[:cap(a.Mesh.Uvs)] {
		a.Mesh.Uvs[:cap(a.Mesh.Uvs)][i] = [2]int{77, 77}
	}
	for i := range a.Mesh.Tris[:cap(a.Mesh.Tris)] {
		a.Mesh.Tris[:cap(a.Mesh.Tris)][i] = [3]int{77, 77, 77}
	}
	for i := range a.Texture.Texels[:cap(a.Texture.Texels)] {
		a.Texture.Texels[:cap(a.Texture.Texels)][i] = [3]int{77, 77, 77}
	}
}

// TestMemory changes what was handed in and what was returned.
func TestMemory(t *testing.T) {
	for _, kind := range kinds {
		a, want := good(kind)
		kept := clone(a)
		memory := slices.Clone(want)
		decoded, e := asset.Decode(kind, memory)
		if e != api.OK {
			t.Fatal(e)
		}
		for i := range memory {
			memory[i] = 0xbb
		}
		if !modelSame(decoded, kept) {
			t.Errorf("the asset is %v when its bytes are changed", decoded)
		}
		b, _ := asset.Encode(a)
		spoil(a)
		if !bytes.Equal(b, want) {
			t.Errorf("the bytes are %v when the asset is changed", b)
		}
		again, _ := asset.Encode(kept)
		for i := range b[:cap(b)] {
			b[:cap(b)][i] = 0xcc
		}
		if third, e := asset.Encode(kept); e != api.OK || !bytes.Equal(again, want) || !bytes.Equal(third, want) {
			t.Errorf("Encode = %v, %v, %v, when what it returned before is changed", again, third, e)
		}
		other, _ := asset.Decode(kind, want)
		spoil(decoded)
		if third, e := asset.Decode(kind, want); e != api.OK || !modelSame(other, kept) || !modelSame(third, kept) {
			t.Errorf("Decode = %v, %v, %v, when what it returned before is changed", other, third, e)
		}
		// One list after the other: the others stay.
		spoil(api.Asset{Mesh: api.Mesh{Verts: other.Mesh.Verts}})
		if !slices.Equal(other.Mesh.Uvs, kept.Mesh.Uvs) || !slices.Equal(other.Mesh.Tris, kept.Mesh.Tris) {
			t.Errorf("%v when the vertices are changed", other)
		}
		spoil(api.Asset{Mesh: api.Mesh{Uvs: other.Mesh.Uvs}})
		if !slices.Equal(other.Mesh.Tris, kept.Mesh.Tris) {
			t.Errorf("%v when the Uvs are changed", other)
		}
	}
}

// TestErrorsAsNumbers holds the errors against their numbers.
func TestErrorsAsNumbers(t *testing.T) {
	long, grid, form := meshOf(65, 1), meshOf(3, 1), of(4)
	grid.Mesh.Verts[1].Y = 4097
	form.Material.Kind = 1
	for _, x := range []struct {
		a    api.Asset
		want int
	}{
		{of(1), 0}, {of(4), 0}, {long, 3}, {form, 5}, {api.Asset{Kind: 2}, 5}, {grid, 8}, {api.Asset{Kind: 4, Light: api.Light{At: api.Point{X: 4097}}}, 8}, {api.Asset{}, 12}, {api.Asset{Kind: 5}, 12},
	} {
		if e := asset.Check(x.a); int(e) != x.want {
			t.Errorf("Check(%v) = %d, want %d", x.a, int(e), x.want)
		}
	}
	for _, x := range []struct{ kind, length, want int }{
		{0, 9, 12}, {5, 31, 12}, {1, 0, 4}, {2, 0, 4}, {3, 8, 4}, {3, 9, 0}, {3, 10, 5}, {4, 30, 4}, {4, 31, 0}, {4, 32, 5},
	} {
		if _, e := asset.Decode(x.kind, make([]byte, x.length)); int(e) != x.want {
			t.Errorf("Decode(%d, %d zeros): %d, want %d", x.kind, x.length, int(e), x.want)
		}
	}
	if e := asset.Material(api.Material{Kind: 5}); int(e) != 5 {
		t.Errorf("Material: %d", int(e))
	}
	if e := asset.Light(api.Light{At: api.Point{X: 4097}}); int(e) != 8 {
		t.Errorf("Light: %d", int(e))
	}
}
