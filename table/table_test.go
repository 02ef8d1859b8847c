package table_test

import (
	"math"
	"slices"
	"testing"

	"umbra/affine"
	"umbra/api"
	"umbra/asset"
	"umbra/table"
)

const (
	least = math.MinInt
	most  = math.MaxInt
)

// noHandles are beside and far from the handles. Some are handles in 16 or 32 bits.
var noHandles = []int{
	-1, 0, 65537, least, most, -2, -5, 65538, 65541, -65536, -65535, -65537, 131072, 131077, 1<<31 - 1, 1 << 31,
	1 << 32, 1<<32 + 1, 1<<32 + 5, -1<<32 + 5, 1 << 62, least + 1, least + 5, most - 1,
}

// draws returns a function that draws numbers from 0 to n - 1, the same ones in every run.
func draws() func(n int) int {
	state := uint64(0x9e3779b97f4a7c15)
	return func(n int) int {
		state ^= state << 13
		state ^= state >> 7
		state ^= state << 17
		return int(state >> 1 % uint64(n))
	}
}

// orders returns a list in each order that it can have.
func orders[E any](l []E) [][]E {
	if len(l) == 0 {
		return [][]E{nil}
	}
	var all [][]E
	for _, rest := range orders(l[1:]) {
		for i := range len(rest) + 1 {
			all = append(all, slices.Insert(slices.Clone(rest), i, l[0]))
		}
	}
	return all
}

// shuffled returns a list in a drawn order.
func shuffled[E any](draw func(int) int, l []E) []E {
	l = slices.Clone(l)
	for i := range l {
		j := draw(i + 1)
		l[i], l[j] = l[j], l[i]
	}
	return l
}

// good returns an asset of a kind without a fault. No two numbers i up to 255 make the
// same one.
func good(kind, i int) api.Asset {
	a := api.Asset{Kind: kind}
	switch kind {
	case 1:
		a.Mesh = api.Mesh{
			Verts: []api.Point{{X: i, Y: -2, Z: 30}, {X: -40, Y: i + 5, Z: 6}, {X: 7, Y: 80, Z: -9}, {X: 100, Y: -11, Z: -i}},
			Uvs:   [][2]int{{0, 65535}, {i, 2}, {3, 4}, {500, 6}},
			Tris:  [][3]int{{0, 3, 2}, {1, 2, 0}},
		}
	case 2:
		a.Texture = api.Texture{Side: 2, Texels: [][3]int{{10, 11, i}, {20, 255, 22}, {30, 31, 0}, {255 - i, 41, 128}}}
	case 3:
		a.Material = api.Material{Kind: 2, Color: [3]int{i, 200, 65535}, Rough: 7}
	case 4:
		a.Light = api.Light{Kind: 1, Color: [3]int{9, i, 1 << 20}, At: api.Point{X: -4096, Y: i}, U: api.Point{Y: 3}, V: api.Point{Z: 4096}}
	}
	return a
}

// about returns a manifest of a kind of which each field has a number of its own. All but
// the kind is nothing to a table, so these are such as no bundle has.
func about(kind, i int) api.Manifest {
	return api.Manifest{
		Id: 1<<63 + uint64(i), Kind: kind, Label: 1<<31 + uint32(i), Masks: [8]uint8{1, 2, 4, 8, 15, 16, 255, uint8(i)},
		From: 90 + uint32(i), To: 10, Size: -70, Chunks: 1 << 40,
	}
}

// clone returns a copy that shares nothing.
func clone(a api.Asset) api.Asset {
	a.Mesh.Verts = slices.Clone(a.Mesh.Verts)
	a.Mesh.Uvs = slices.Clone(a.Mesh.Uvs)
	a.Mesh.Tris = slices.Clone(a.Mesh.Tris)
	a.Texture.Texels = slices.Clone(a.Texture.Texels)
	return a
}

// same tells whether two assets are the same, number by number; an empty list is nil.
func same(a, b api.Asset) bool {
	return a.Kind == b.Kind && a.Material == b.Material && a.Light == b.Light && a.Texture.Side == b.Texture.Side &&
		slices.Equal(a.Mesh.Verts, b.Mesh.Verts) && slices.Equal(a.Mesh.Uvs, b.Mesh.Uvs) &&
		slices.Equal(a.Mesh.Tris, b.Mesh.Tris) && slices.Equal(a.Texture.Texels, b.Texture.Texels)
}

// sameRows tells whether two lists of rows are the same.
func sameRows(a, b []api.Row) bool {
	return slices.EqualFunc(a, b, func(x, y api.Row) bool {
		return x.Handle == y.Handle && x.M == y.M && same(x.A, y.A)
	})
}

// nameOf returns the components of an instance's name, in their order.
func nameOf(i api.Inst) []int { return []int{i.Mesh, i.Material, i.Texture, i.N} }

// model is a table as two lists in order, which are gone through for each question.
type model struct {
	rows  []api.Row
	insts []api.Inst
}

func (m *model) copy() *model {
	c := &model{insts: slices.Clone(m.insts)}
	for _, r := range m.rows {
		r.A = clone(r.A)
		c.rows = append(c.rows, r)
	}
	return c
}

// kind returns the kind of the asset of a handle, and 0 if there is none.
func (m *model) kind(handle int) int {
	for _, r := range m.rows {
		if r.Handle == handle {
			return r.A.Kind
		}
	}
	return 0
}

// find returns the place of the instance with the name of i, and -1 if there is none.
func (m *model) find(i api.Inst) int {
	return slices.IndexFunc(m.insts, func(x api.Inst) bool { return slices.Equal(nameOf(x), nameOf(i)) })
}

func (m *model) load(handle int, about api.Manifest, a api.Asset) api.Errno {
	if handle != max(1, min(handle, 65536)) {
		return api.ErrArg
	}
	if m.kind(handle) != 0 {
		return api.ErrDup
	}
	if e := asset.Check(a); e != api.OK {
		return e
	}
	if about.Kind != a.Kind {
		return api.ErrKind
	}
	at := 0
	for _, r := range m.rows {
		if r.Handle < handle {
			at++
		}
	}
	m.rows = slices.Insert(m.rows, at, api.Row{Handle: handle, M: about, A: clone(a)})
	return api.OK
}

func (m *model) unload(handle int) api.Errno {
	if m.kind(handle) == 0 {
		return api.ErrNone
	}
	m.rows = slices.DeleteFunc(m.rows, func(r api.Row) bool { return r.Handle == handle })
	m.insts = slices.DeleteFunc(m.insts, func(i api.Inst) bool { return slices.Contains(nameOf(i)[:3], handle) })
	return api.OK
}

func (m *model) put(i api.Inst) api.Errno {
	if i.N != max(0, min(i.N, 65536)) {
		return api.ErrArg
	}
	mesh, material, texture := m.kind(i.Mesh), m.kind(i.Material), m.kind(i.Texture)
	if i.Texture == 0 {
		texture = 2
	}
	if mesh == 0 || material == 0 || texture == 0 {
		return api.ErrNone
	}
	if mesh != 1 || material != 3 || texture != 2 {
		return api.ErrKind
	}
	if m.find(i) >= 0 {
		return api.ErrDup
	}
	for _, r := range m.rows {
		if r.Handle != i.Mesh {
			continue
		}
		for _, v := range r.A.Mesh.Verts {
			if _, e := affine.Place(i.T, v); e != api.OK {
				return e
			}
		}
	}
	m.insts = append(m.insts, i)
	slices.SortFunc(m.insts, func(a, b api.Inst) int { return slices.Compare(nameOf(a), nameOf(b)) })
	return api.OK
}

func (m *model) take(i api.Inst) api.Errno {
	at := m.find(i)
	if at < 0 {
		return api.ErrNone
	}
	m.insts = slices.Delete(m.insts, at, at+1)
	return api.OK
}

// both is a table and its model: each call is made to either, and both are compared
// behind it.
type both struct {
	t     *testing.T
	table *table.Table
	model *model
}

func start(t *testing.T) *both { return &both{t, table.New(), &model{}} }

// copy returns a Copy of the table, and a copy of the model.
func (b *both) copy() *both { return &both{b.t, b.table.Copy(), b.model.copy()} }

// check compares the table with the model.
func (b *both) check(what string) {
	b.t.Helper()
	if got := b.table.Rows(); !sameRows(got, b.model.rows) {
		b.t.Errorf("behind %s the rows are %v, want %v", what, got, b.model.rows)
	}
	if got := b.table.Insts(); !slices.Equal(got, b.model.insts) {
		b.t.Errorf("behind %s the instances are %v, want %v", what, got, b.model.insts)
	}
}

// call makes a call, which should tell what the model tells, and change nothing if that
// is an error.
func (b *both) call(what string, does, says func() api.Errno) api.Errno {
	b.t.Helper()
	rows, insts := b.table.Rows(), b.table.Insts()
	got, want := does(), says()
	if got != want {
		b.t.Errorf("%s: %v, want %v", what, got, want)
	}
	if got != api.OK && !(sameRows(b.table.Rows(), rows) && slices.Equal(b.table.Insts(), insts)) {
		b.t.Errorf("%s is the error %v, but changes the table", what, got)
	}
	b.check(what)
	return got
}

func (b *both) load(handle int, m api.Manifest, a api.Asset) api.Errno {
	b.t.Helper()
	kept := clone(a)
	e := b.call("Load", func() api.Errno { return b.table.Load(handle, m, a) }, func() api.Errno { return b.model.load(handle, m, a) })
	if !same(a, kept) {
		b.t.Errorf("Load changed %v to %v", kept, a)
	}
	return e
}

func (b *both) unload(handle int) api.Errno {
	b.t.Helper()
	return b.call("Unload", func() api.Errno { return b.table.Unload(handle) }, func() api.Errno { return b.model.unload(handle) })
}

func (b *both) put(i api.Inst) api.Errno {
	b.t.Helper()
	return b.call("Put", func() api.Errno { return b.table.Put(i) }, func() api.Errno { return b.model.put(i) })
}

func (b *both) take(i api.Inst) api.Errno {
	b.t.Helper()
	return b.call("Take", func() api.Errno { return b.table.Take(i) }, func() api.Errno { return b.model.take(i) })
}

// loadGood loads an asset of a kind without a fault.
func (b *both) loadGood(handle, kind int) api.Errno {
	b.t.Helper()
	return b.load(handle, about(kind, handle%200), good(kind, handle%200))
}

// expect compares an error with the one that it should be.
func expect(t *testing.T, got, want api.Errno, what ...any) {
	t.Helper()
	if got != want {
		t.Errorf("%v: %v, want %v", what, got, want)
	}
}

// The handles of scene, by the kinds of their assets; not in the order of kinds.
var (
	meshes    = []int{10, 20}
	materials = []int{5, 30}
	textures  = []int{7, 40}
	lights    = []int{9}
)

// scene loads assets of all kinds, two of most.
func scene(t *testing.T) *both {
	t.Helper()
	b := start(t)
	for i, handles := range [][]int{meshes, textures, materials, lights} {
		for _, handle := range handles {
			expect(t, b.loadGood(handle, i+1), api.OK, handle)
		}
	}
	return b
}

// full is scene with an instance of every name there may be with these numbers, each
// with a transform of its own.
func full(t *testing.T, numbers ...int) *both {
	t.Helper()
	b := scene(t)
	for _, mesh := range meshes {
		for _, material := range materials {
			for _, texture := range append([]int{0}, textures...) {
				for _, n := range numbers {
					i := api.Inst{Mesh: mesh, Material: material, Texture: texture, N: n, T: moved(len(b.model.insts))}
					expect(t, b.put(i), api.OK, i)
				}
			}
		}
	}
	return b
}

// moved returns a transform that moves by i along the axis X.
func moved(i int) api.Affine {
	return affine.Move(api.Vec{X: api.Fix(i) * api.One})
}

func TestHelpers(t *testing.T) {
	l := orders([]int{1, 2, 3})
	slices.SortFunc(l, slices.Compare)
	if l = slices.CompactFunc(l, slices.Equal); len(l) != 6 || !slices.Equal(l[0], []int{1, 2, 3}) || !slices.Equal(l[5], []int{3, 2, 1}) {
		t.Error(l)
	}
	draw, seen := draws(), map[int]int{}
	for range 1000 {
		seen[draw(5)]++
	}
	for i := range 5 {
		if seen[i] < 100 {
			t.Errorf("%d is drawn %d times of 1000", i, seen[i])
		}
	}
	if m := shuffled(draw, []int{3, 1, 2}); !slices.Equal(slices.Sorted(slices.Values(m)), []int{1, 2, 3}) {
		t.Error(m)
	}
	for kind := 1; kind <= 4; kind++ {
		for i := range 256 {
			if e := asset.Check(good(kind, i)); e != api.OK {
				t.Errorf("good(%d, %d): %v", kind, i, e)
			}
			if i > 0 && same(good(kind, i), good(kind, i-1)) {
				t.Errorf("good(%d, %d) is the one before", kind, i)
			}
		}
	}
}

// TestModel holds the model against what the chapter's words are for a few calls.
func TestModel(t *testing.T) {
	m := &model{}
	inst := api.Inst{Mesh: 2, Material: 1, N: 9, T: affine.Same()}
	for i, x := range []struct {
		got, want api.Errno
	}{
		{m.load(0, about(1, 1), good(1, 1)), api.ErrArg},
		{m.load(2, about(1, 1), good(1, 1)), api.OK},
		{m.load(2, about(2, 1), good(3, 1)), api.ErrDup},
		{m.load(1, about(2, 1), good(3, 1)), api.ErrKind},
		{m.put(inst), api.ErrNone},
		{m.load(1, about(3, 1), good(3, 1)), api.OK},
		{m.put(api.Inst{Mesh: 1, Material: 1}), api.ErrKind},
		{m.put(api.Inst{Mesh: 2, Material: 1, T: moved(65536)}), api.ErrGrid},
		{m.put(inst), api.OK},
		{m.put(inst), api.ErrDup},
		{m.put(api.Inst{Mesh: 2, Material: 1, N: 8, T: affine.Same()}), api.OK},
		{m.take(api.Inst{Mesh: 2, Material: 1, N: 7}), api.ErrNone},
	} {
		expect(t, x.got, x.want, i)
	}
	if len(m.rows) != 2 || m.rows[0].Handle != 1 || m.rows[1].Handle != 2 || len(m.insts) != 2 || m.insts[0].N != 8 || m.insts[1] != inst {
		t.Error(m)
	}
	c := m.copy()
	expect(t, m.take(api.Inst{Mesh: 2, Material: 1, N: 8}), api.OK)
	expect(t, m.unload(1), api.OK)
	expect(t, m.unload(1), api.ErrNone)
	if len(m.rows) != 1 || len(m.insts) != 0 || len(c.rows) != 2 || len(c.insts) != 2 {
		t.Error(m, c)
	}
}

func TestExample(t *testing.T) {
	x := table.New()
	m, a := about(3, 1), good(3, 1)
	expect(t, x.Load(5, m, a), api.OK, "first")
	expect(t, x.Load(5, m, a), api.ErrDup, "second")
	expect(t, x.Unload(5), api.OK, "Unload")
	expect(t, x.Load(5, m, a), api.OK, "third")
}

func TestLoadHandles(t *testing.T) {
	b := start(t)
	for _, handle := range noHandles {
		expect(t, b.loadGood(handle, 3), api.ErrArg, handle)
	}
	for _, handle := range []int{1, 65536, 2, 65535, 255, 256, 257, 32767, 32768, 9, 10, 99, 100} {
		expect(t, b.loadGood(handle, 1+handle%4), api.OK, handle)
		expect(t, b.loadGood(handle, 1+handle%4), api.ErrDup, handle)
	}
	for _, handle := range noHandles {
		expect(t, b.loadGood(handle, 1), api.ErrArg, handle)
	}
	if n := len(b.table.Rows()); n != 13 {
		t.Errorf("%d rows, want 13", n)
	}
}

func TestLoadEachHandle(t *testing.T) {
	x := table.New()
	for handle := -300; handle < 66000; handle++ {
		want := api.ErrArg
		if handle >= 1 && handle <= 65536 {
			want = api.OK
		}
		expect(t, x.Load(handle, about(3, 0), api.Asset{Kind: 3, Material: api.Material{Color: [3]int{max(0, handle) / 2}}}), want, handle)
	}
	rows := x.Rows()
	if len(rows) != 65536 {
		t.Fatalf("%d rows", len(rows))
	}
	for i, r := range rows {
		if r.Handle != i+1 || r.A.Material.Color[0] != (i+1)/2 {
			t.Fatalf("row %d is %v", i, r)
		}
	}
}

// TestLoadKeepsFirst loads a handle with one asset of each kind after the other.
func TestLoadKeepsFirst(t *testing.T) {
	for first := 1; first <= 4; first++ {
		b := start(t)
		expect(t, b.load(8, about(first, 3), good(first, 4)), api.OK, first)
		for second := 1; second <= 4; second++ {
			expect(t, b.load(8, about(second, 5), good(second, 6)), api.ErrDup, first, second)
		}
		want := []api.Row{{Handle: 8, M: about(first, 3), A: good(first, 4)}}
		if got := b.table.Rows(); !sameRows(got, want) {
			t.Errorf("the rows are %v, want %v", got, want)
		}
		for second := 1; second <= 4; second++ {
			expect(t, b.unload(8), api.OK, first, second)
			expect(t, b.load(8, about(second, 5), good(second, 6)), api.OK, first, second)
			want = []api.Row{{Handle: 8, M: about(second, 5), A: good(second, 6)}}
			if got := b.table.Rows(); !sameRows(got, want) {
				t.Errorf("the rows are %v, want %v", got, want)
			}
		}
	}
}

// fault is an asset, and the error that asset.Check tells of it.
type fault struct {
	what string
	a    api.Asset
	err  api.Errno
}

// meshFaults returns meshes with faults.
func meshFaults() []fault {
	of := func(what string, err api.Errno, change func(m *api.Mesh)) fault {
		a := good(1, 1)
		change(&a.Mesh)
		return fault{what, a, err}
	}
	return []fault{
		of("65 vertices", api.ErrLong, func(m *api.Mesh) { m.Verts, m.Uvs = make([]api.Point, 65), make([][2]int, 65) }),
		of("65 triangles", api.ErrLong, func(m *api.Mesh) { m.Tris = slices.Repeat(m.Tris[:1], 65) }),
		of("no mesh", api.ErrForm, func(m *api.Mesh) { *m = api.Mesh{} }),
		of("no vertex", api.ErrForm, func(m *api.Mesh) { m.Verts, m.Uvs = nil, nil }),
		of("no triangle", api.ErrForm, func(m *api.Mesh) { m.Tris = m.Tris[:0] }),
		of("a pair of Uvs too few", api.ErrForm, func(m *api.Mesh) { m.Uvs = m.Uvs[1:] }),
		of("a vertex off the grid", api.ErrGrid, func(m *api.Mesh) { m.Verts[3].Z = 4097 }),
		of("a Uv off the texture", api.ErrForm, func(m *api.Mesh) { m.Uvs[0][1] = 65536 }),
		of("a corner that is no vertex", api.ErrForm, func(m *api.Mesh) { m.Tris[1][2] = 4 }),
		of("two equal corners", api.ErrForm, func(m *api.Mesh) { m.Tris[0] = [3]int{1, 2, 1} }),
		{"a mesh with a side", api.Asset{Kind: 1, Mesh: good(1, 1).Mesh, Texture: api.Texture{Side: 1}}, api.ErrForm},
		{"a mesh with a material", api.Asset{Kind: 1, Mesh: good(1, 1).Mesh, Material: api.Material{Rough: 1}}, api.ErrForm},
	}
}

// otherFaults returns assets of other kinds, and of none, with faults.
func otherFaults() []fault {
	texture := func(side int, texels ...[3]int) api.Asset {
		return api.Asset{Kind: 2, Texture: api.Texture{Side: side, Texels: texels}}
	}
	material := func(m api.Material) api.Asset { return api.Asset{Kind: 3, Material: m} }
	light := func(l api.Light) api.Asset { return api.Asset{Kind: 4, Light: l} }
	return []fault{
		{"nothing", api.Asset{}, api.ErrKind},
		{"kind 0", api.Asset{Mesh: good(1, 1).Mesh}, api.ErrKind},
		{"kind 5", api.Asset{Kind: 5, Material: good(3, 1).Material}, api.ErrKind},
		{"kind -1", api.Asset{Kind: -1}, api.ErrKind},
		{"the greatest kind", api.Asset{Kind: most}, api.ErrKind},
		{"side 0", texture(0), api.ErrForm},
		{"side 3", texture(3, make([][3]int, 9)...), api.ErrForm},
		{"a texel too many", texture(1, [3]int{}, [3]int{}), api.ErrForm},
		{"a texel too bright", texture(1, [3]int{0, 0, 256}), api.ErrForm},
		{"a texture with a mesh", api.Asset{Kind: 2, Texture: good(2, 1).Texture, Mesh: good(1, 1).Mesh}, api.ErrForm},
		{"no kind of material", material(api.Material{Kind: 5}), api.ErrForm},
		{"a material too bright", material(api.Material{Color: [3]int{0, 65536, 0}}), api.ErrForm},
		{"a material too smooth", material(api.Material{Rough: -1}), api.ErrForm},
		{"a material with a light", api.Asset{Kind: 3, Light: good(4, 1).Light}, api.ErrForm},
		{"no kind of light", light(api.Light{Kind: 3}), api.ErrForm},
		{"a light too bright", light(api.Light{Color: [3]int{0, 0, 1<<20 + 1}}), api.ErrForm},
		{"a light off the grid", light(api.Light{At: api.Point{Y: -4097}}), api.ErrGrid},
		{"an environment with a place", light(api.Light{Kind: 2, At: api.Point{X: 1}}), api.ErrForm},
		{"a point with a side", light(api.Light{U: api.Point{Z: 1}}), api.ErrForm},
		{"a light with texels", api.Asset{Kind: 4, Texture: api.Texture{Texels: make([][3]int, 1)}}, api.ErrForm},
	}
}

// faults returns assets of all kinds with faults.
func faults() []fault { return append(meshFaults(), otherFaults()...) }

func TestLoadFaults(t *testing.T) {
	b := start(t)
	for _, f := range faults() {
		expect(t, asset.Check(f.a), f.err, f.what)
		expect(t, b.load(1, about(f.a.Kind, 0), f.a), f.err, f.what)
	}
	if len(b.table.Rows()) != 0 {
		t.Error("there are rows")
	}
	for kind := 1; kind <= 4; kind++ {
		expect(t, b.load(kind, about(kind, 0), good(kind, 0)), api.OK, kind)
	}
}

// TestLoadKinds loads assets of each kind with manifests of each kind, and of none.
func TestLoadKinds(t *testing.T) {
	for kind := 1; kind <= 4; kind++ {
		for _, told := range []int{0, 1, 2, 3, 4, 5, -1, -kind, kind + 8, kind + 256, kind + 1<<16, kind + 1<<32, kind - 1<<32, least + kind, least, most} {
			want := api.ErrKind
			if told == kind {
				want = api.OK
			}
			expect(t, start(t).load(3, about(told, 1), good(kind, 1)), want, kind, told)
		}
	}
}

// TestLoadAnyManifest loads with manifests that manifest.Check refuses: only their kinds
// count.
func TestLoadAnyManifest(t *testing.T) {
	b := start(t)
	for i, m := range []api.Manifest{
		{Kind: 3},
		{Kind: 3, Id: math.MaxUint64, Label: math.MaxUint32, From: math.MaxUint32, To: math.MaxUint32, Size: most, Chunks: least},
		{Kind: 3, From: 2, To: 1},
		{Kind: 3, Masks: [8]uint8{255, 16, 128}},
		{Kind: 3, Size: 65, Chunks: 1},
		{Kind: 3, Size: 9, Chunks: 1, To: 5},
	} {
		expect(t, b.load(i+1, m, good(3, i)), api.OK, m)
		if got := b.table.Rows()[i].M; got != m {
			t.Errorf("%v became %v", m, got)
		}
	}
}

// TestLoadOrder makes one fault, two and three at once: the first one that the chapter
// names is told.
func TestLoadOrder(t *testing.T) {
	assets := faults()
	for kind := 1; kind <= 4; kind++ {
		assets = append(assets, fault{"good", good(kind, 9), api.OK})
	}
	b := scene(t)
	handles := append([]int{1, 65536}, noHandles...)
	handles = slices.Concat(handles, meshes, materials, textures, lights)
	for _, handle := range handles {
		there := slices.Contains(meshes, handle) || slices.Contains(materials, handle) || slices.Contains(textures, handle) || slices.Contains(lights, handle)
		for _, f := range assets {
			for _, told := range []int{f.a.Kind, f.a.Kind + 1, -f.a.Kind - 1} {
				want := api.OK
				if told != f.a.Kind {
					want = api.ErrKind
				}
				if f.err != api.OK {
					want = f.err
				}
				if there {
					want = api.ErrDup
				}
				if slices.Contains(noHandles, handle) {
					want = api.ErrArg
				}
				expect(t, b.load(handle, about(told, 2), f.a), want, handle, f.what, told)
				if want == api.OK {
					expect(t, b.unload(handle), api.OK, handle)
				}
			}
		}
	}
}

func TestUnload(t *testing.T) {
	b := scene(t)
	for _, handle := range slices.Concat(noHandles, []int{1, 2, 6, 8, 11, 19, 21, 41, 65535, 65536, -10, -20, 10 + 1<<16, 10 + 1<<32}) {
		expect(t, b.unload(handle), api.ErrNone, "of scene", handle)
		expect(t, start(t).unload(handle), api.ErrNone, "of nothing", handle)
	}
	for _, handle := range slices.Concat(lights, meshes, textures, materials) {
		expect(t, b.unload(handle), api.OK, handle)
		expect(t, b.unload(handle), api.ErrNone, handle)
	}
	if len(b.table.Rows()) != 0 {
		t.Error("there are rows")
	}
	for _, handle := range []int{1, 65536} {
		expect(t, b.loadGood(handle, 4), api.OK, handle)
		expect(t, b.unload(handle), api.OK, handle)
		expect(t, b.unload(handle), api.ErrNone, handle)
	}
}

// TestUnloadTakes unloads each asset of a table with instances of every name: just those
// that name it go. Some have handles as numbers, which does not count.
func TestUnloadTakes(t *testing.T) {
	numbers := []int{0, 5, 7, 9, 10, 65536}
	for _, handle := range slices.Concat(meshes, materials, textures, lights) {
		b := full(t, numbers...)
		var want []api.Inst
		for _, i := range b.table.Insts() {
			if i.Mesh != handle && i.Material != handle && i.Texture != handle {
				want = append(want, i)
			}
		}
		expect(t, b.unload(handle), api.OK, handle)
		got := b.table.Insts()
		if !slices.Equal(got, want) {
			t.Errorf("behind Unload(%d) there are %v, want %v", handle, got, want)
		}
		left := 72
		switch {
		case slices.Contains(textures, handle):
			left = 48
		case !slices.Contains(lights, handle):
			left = 36
		}
		if len(got) != left {
			t.Errorf("behind Unload(%d) there are %d instances, want %d", handle, len(got), left)
		}
	}
}

// TestUnloadInEachOrder unloads two of each part, in each order.
func TestUnloadInEachOrder(t *testing.T) {
	first := full(t, 0, 10)
	for _, order := range orders([]int{10, 20, 5, 7, 40}) {
		b := first.copy()
		for _, handle := range order {
			expect(t, b.unload(handle), api.OK, order, handle)
			expect(t, b.unload(handle), api.ErrNone, order, handle)
		}
		if len(b.table.Insts()) != 0 {
			t.Errorf("behind %v there are instances", order)
		}
	}
}

// TestLoadBringsNothingBack loads again what was unloaded: its instances do not come back,
// and may be put again.
func TestLoadBringsNothingBack(t *testing.T) {
	for _, handle := range slices.Concat(meshes, materials, textures) {
		b := full(t, 0, 1)
		before := b.table.Insts()
		kind := b.model.kind(handle)
		expect(t, b.unload(handle), api.OK, handle)
		left := b.table.Insts()
		expect(t, b.loadGood(handle, kind), api.OK, handle)
		if got := b.table.Insts(); !slices.Equal(got, left) {
			t.Errorf("behind Load(%d) there are %v, want %v", handle, got, left)
		}
		for _, i := range before {
			want := api.OK
			if slices.Contains(left, i) {
				want = api.ErrDup
			}
			expect(t, b.put(i), want, handle, i)
		}
		if got := b.table.Insts(); !slices.Equal(got, before) {
			t.Errorf("put again there are %v, want %v", got, before)
		}
	}
}

// TestLoadAnotherKind loads a handle with another kind of asset than it had.
func TestLoadAnotherKind(t *testing.T) {
	b := scene(t)
	i := api.Inst{Mesh: 10, Material: 5, Texture: 7, T: affine.Same()}
	expect(t, b.put(i), api.OK, "first")
	for _, handle := range []int{10, 5, 7} {
		was := b.model.kind(handle)
		for kind := 1; kind <= 4; kind++ {
			expect(t, b.unload(handle), api.OK, handle)
			expect(t, b.put(i), api.ErrNone, handle)
			expect(t, b.loadGood(handle, kind), api.OK, handle, kind)
			want := api.ErrKind
			if kind == was {
				want = api.OK
			}
			expect(t, b.put(i), want, handle, kind)
		}
		expect(t, b.unload(handle), api.OK, handle)
		expect(t, b.loadGood(handle, was), api.OK, handle)
	}
}
