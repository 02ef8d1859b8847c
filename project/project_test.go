package project_test

import (
	"math"
	"reflect"
	"slices"
	"testing"

	"umbra/affine"
	"umbra/api"
	"umbra/project"
	"umbra/table"
)

const (
	least = math.MinInt
	most  = math.MaxInt
	last  = math.MaxUint32 // the label of all bits, and the last moment
)

// noLayers are beside and far from the layers. Some are layers in 3, 8 or 32 bits.
var noLayers = []int{
	-1, 8, least, most, -2, 9, -8, 15, 16, -256, 255, 256, 257, -1 << 32, 1<<32 - 1, 1 << 32, 1<<32 + 7, 1 << 62,
	least + 1, least + 8, most - 7,
}

// draws returns a function that draws numbers from 0 to n - 1, the same ones in every run.
func draws() func(n int) int {
	state := uint64(0x9e3779b97f4a7c15)
	return func(n int) int {
		state ^= state << 13
		state ^= state >> 7
		state ^= state << 17
		return int(state >> 1 % uint64(n))
	}
}

// shuffled returns a list in a drawn order.
func shuffled[E any](draw func(int) int, l []E) []E {
	l = slices.Clone(l)
	for i := range l {
		j := draw(i + 1)
		l[i], l[j] = l[j], l[i]
	}
	return l
}

// pick draws one element of a list.
func pick[E any](draw func(int) int, l ...E) E { return l[draw(len(l))] }

// expect compares an error with the one that it should be.
func expect(t *testing.T, got, want api.Errno, what ...any) {
	t.Helper()
	if got != want {
		t.Errorf("%v: %v, want %v", what, got, want)
	}
}

// good returns an asset of a kind without a fault. No two numbers i up to 255 make the
// same one.
func good(kind, i int) api.Asset {
	a := api.Asset{Kind: kind}
	switch kind {
	case 1:
		a.Mesh = api.Mesh{
			Verts: []api.Point{{X: i, Y: -2, Z: 30}, {X: -40, Y: i + 5, Z: 6}, {X: 7, Y: 80, Z: -9}, {X: 100, Y: -11, Z: -i}},
			Uvs:   [][2]int{{0, 65535}, {i, 2}, {3, 4}, {500, 6}},
			Tris:  [][3]int{{0, 3, 2}, {1, 2, 0}},
		}
	case 2:
		a.Texture = api.Texture{Side: 2, Texels: [][3]int{{10, 11, i}, {20, 255, 22}, {30, 31, 0}, {255 - i, 41, 128}}}
	case 3:
		a.Material = api.Material{Kind: 2, Color: [3]int{i, 200, 65535}, Rough: 7}
	case 4:
		a.Light = api.Light{Kind: 1, Color: [3]int{9, i, 1 << 20}, At: api.Point{X: -4096, Y: i}, U: api.Point{Y: 3}, V: api.Point{Z: 4096}}
	}
	return a
}

// all returns the masks of what each layer sees by the same mask.
func all(mask uint8) (masks [8]uint8) {
	for i := range masks {
		masks[i] = mask
	}
	return masks
}

// only returns the masks of what one layer alone sees.
func only(layer int, mask uint8) (masks [8]uint8) {
	masks[layer] = mask
	return masks
}

// but returns the masks of what all layers but one see.
func but(layer int, mask uint8) [8]uint8 {
	masks := all(mask)
	masks[layer] = 0
	return masks
}

// row returns a row whose asset and manifest are told apart by its handle.
func row(handle, kind int, masks [8]uint8) api.Row {
	i := handle % 256
	return api.Row{
		Handle: handle,
		M:      api.Manifest{Id: uint64(handle) + 1<<40, Kind: kind, Label: 1 << (i % 32), Masks: masks, From: uint32(i), To: last - uint32(i), Size: 1, Chunks: 1},
		A:      good(kind, i),
	}
}

// moved returns a transform that moves by i along the axis X.
func moved(i int) api.Affine {
	return affine.Move(api.Vec{X: api.Fix(i) * api.One})
}

// world is what a table is told: assets, and instances of them.
type world struct {
	rows  []api.Row
	insts []api.Inst
}

// table returns a table that was told it, in its order.
func (w world) table(t *testing.T) *table.Table {
	t.Helper()
	x := table.New()
	for _, r := range w.rows {
		expect(t, x.Load(r.Handle, r.M, r.A), api.OK, "Load", r.Handle)
	}
	for _, i := range w.insts {
		expect(t, x.Put(i), api.OK, "Put", i)
	}
	return x
}

// with returns the world and more.
func (w world) with(rows []api.Row, insts ...api.Inst) world {
	return world{slices.Concat(w.rows, rows), slices.Concat(w.insts, insts)}
}

// seen returns what a layer sees of a kind (0: of all), ordered by handles.
func (w world) seen(layer, kind int) []api.Row {
	var l []api.Row
	for _, r := range w.rows {
		if r.M.Masks[layer] > 0 && (kind == 0 || r.A.Kind == kind) {
			l = append(l, r)
		}
	}
	slices.SortFunc(l, func(a, b api.Row) int { return a.Handle - b.Handle })
	return l
}

// index returns where a handle is in seen, and -1 if it is not there.
func (w world) index(layer, kind, handle int) int {
	return slices.IndexFunc(w.seen(layer, kind), func(r api.Row) bool { return r.Handle == handle })
}

// put is a point where a transform puts it. A product of a Fix and a whole number is
// exact, so that only the last step rounds, halves upwards.
func put(a api.Affine, p api.Point) api.Point {
	line := func(m [3]api.Fix, move api.Fix) int {
		sum := int(m[0])*p.X + int(m[1])*p.Y + int(m[2])*p.Z + int(move)
		return (sum + 1<<31) >> 32
	}
	return api.Point{
		X: line([3]api.Fix(a.M[0:3]), a.T.X),
		Y: line([3]api.Fix(a.M[3:6]), a.T.Y),
		Z: line([3]api.Fix(a.M[6:9]), a.T.Z),
	}
}

// scene is the model of Project: it looks through the whole world for each index.
func (w world) scene(layer int) api.Scene {
	s := api.Scene{To: last}
	for _, r := range w.seen(layer, 0) {
		s.Ids = append(s.Ids, r.M.Id)
		s.Labels = append(s.Labels, r.M.Label)
		s.Label |= r.M.Label
		s.From, s.To = max(s.From, r.M.From), min(s.To, r.M.To)
	}
	for _, r := range w.seen(layer, 2) {
		s.Texs = append(s.Texs, api.Texture{Side: r.A.Texture.Side, Texels: slices.Clone(r.A.Texture.Texels)})
	}
	for _, r := range w.seen(layer, 3) {
		s.Mats = append(s.Mats, r.A.Material)
	}
	for _, r := range w.seen(layer, 4) {
		s.Lights = append(s.Lights, r.A.Light)
	}
	insts := slices.Clone(w.insts)
	slices.SortFunc(insts, func(a, b api.Inst) int {
		return slices.Compare([]int{a.Mesh, a.Material, a.Texture, a.N}, []int{b.Mesh, b.Material, b.Texture, b.N})
	})
	for _, i := range insts {
		s.Tris = append(s.Tris, w.tris(layer, i)...)
	}
	return s
}

// tris returns the triangles of an instance that a layer sees.
func (w world) tris(layer int, i api.Inst) []api.Tri {
	obj, mat, tex := w.index(layer, 0, i.Mesh), w.index(layer, 3, i.Material), w.index(layer, 2, i.Texture)
	if obj < 0 || mat < 0 || tex < 0 && i.Texture != 0 {
		return nil
	}
	var l []api.Tri
	r := w.seen(layer, 0)[obj]
	for _, c := range r.A.Mesh.Tris {
		v, uv := r.A.Mesh.Verts, r.A.Mesh.Uvs
		l = append(l, api.Tri{
			P:   [3]api.Point{put(i.T, v[c[0]]), put(i.T, v[c[1]]), put(i.T, v[c[2]])},
			Uv:  [3][2]int{uv[c[0]], uv[c[1]], uv[c[2]]},
			Mat: mat, Tex: tex, Obj: obj, Mask: r.M.Masks[layer],
		})
	}
	return l
}

// plain returns a scene in which each list without elements is nil.
func plain(s api.Scene) api.Scene {
	s.Tris = append([]api.Tri(nil), s.Tris...)
	s.Mats = append([]api.Material(nil), s.Mats...)
	s.Texs = append([]api.Texture(nil), s.Texs...)
	for i := range s.Texs {
		s.Texs[i].Texels = append([][3]int(nil), s.Texs[i].Texels...)
	}
	s.Lights = append([]api.Light(nil), s.Lights...)
	s.Ids = append([]uint64(nil), s.Ids...)
	s.Labels = append([]uint32(nil), s.Labels...)
	return s
}

// same tells whether two scenes are the same in all parts; an empty list is nil.
func same(a, b api.Scene) bool { return reflect.DeepEqual(plain(a), plain(b)) }

// scene returns what Project tells of a table and a layer without an error.
func scene(t *testing.T, x *table.Table, layer int) api.Scene {
	t.Helper()
	s, e := project.Project(x, layer)
	expect(t, e, api.OK, "Project", layer)
	return s
}

// check compares the scenes that each layer sees of the world with the model's, and their
// encodings with those of the model's scenes.
func (w world) check(t *testing.T, what ...any) {
	t.Helper()
	x := w.table(t)
	for layer := range 8 {
		got, want := scene(t, x, layer), w.scene(layer)
		if !same(got, want) {
			t.Errorf("%v: layer %d sees %+v, want %+v", what, layer, got, want)
		}
		if !slices.Equal(project.Encode(got), modelEncode(want)) {
			t.Errorf("%v: the encoding of what layer %d sees is not the model's", what, layer)
		}
	}
}

func TestHelpers(t *testing.T) {
	draw, drawn := draws(), map[int]int{}
	for range 1000 {
		drawn[draw(5)]++
	}
	for i := range 5 {
		if drawn[i] < 100 {
			t.Errorf("%d is drawn %d times of 1000", i, drawn[i])
		}
	}
	if m := shuffled(draw, []int{3, 1, 2}); !slices.Equal(slices.Sorted(slices.Values(m)), []int{1, 2, 3}) {
		t.Error(m)
	}
	if all(3) != [8]uint8{3, 3, 3, 3, 3, 3, 3, 3} || only(2, 5) != [8]uint8{0, 0, 5} || but(7, 1) != [8]uint8{1, 1, 1, 1, 1, 1, 1} {
		t.Error("masks")
	}
	if same(api.Scene{}, api.Scene{Ids: []uint64{0}}) || !same(api.Scene{}, api.Scene{Texs: []api.Texture{}}) {
		t.Error("same")
	}
	half := affine.Size(api.One / 2)
	for _, x := range []struct{ p, want api.Point }{
		{api.Point{X: 3, Y: -3, Z: 4}, api.Point{X: 2, Y: -1, Z: 2}},
		{api.Point{X: 1, Y: -1}, api.Point{X: 1}},
	} {
		if got := put(half, x.p); got != x.want {
			t.Errorf("half of %v is %v, want %v", x.p, got, x.want)
		}
	}
}

// TestModel holds the model against scenes that are written out.
func TestModel(t *testing.T) {
	w, wants := small()
	for layer, want := range wants {
		if got := w.scene(layer); !same(got, want) {
			t.Errorf("the model's scene of layer %d is %+v, want %+v", layer, got, want)
		}
	}
}

// TestSmall holds Project against the same ones.
func TestSmall(t *testing.T) {
	w, wants := small()
	x := w.table(t)
	for layer, want := range wants {
		if got := scene(t, x, layer); !same(got, want) {
			t.Errorf("the scene of layer %d is %+v, want %+v", layer, got, want)
		}
	}
}

// small returns a world of a few assets, and what the layers 1 to 3 see of it, written out.
func small() (world, map[int]api.Scene) {
	mesh := api.Mesh{
		Verts: []api.Point{{X: 1}, {Y: 2}, {Z: 3}, {X: -4, Y: -5, Z: -6}},
		Uvs:   [][2]int{{10, 11}, {20, 21}, {30, 31}, {40, 41}},
		Tris:  [][3]int{{2, 0, 1}, {1, 3, 2}},
	}
	texture := api.Texture{Side: 1, Texels: [][3]int{{7, 8, 9}}}
	light := api.Light{Color: [3]int{100, 200, 300}, At: api.Point{X: 50, Y: 60, Z: 70}}
	glossy, bright := api.Material{Kind: 2, Color: [3]int{6, 5, 4}, Rough: 3}, api.Material{Kind: 4, Rough: 1}
	row := func(handle int, id uint64, from, to uint32, masks [8]uint8, a api.Asset) api.Row {
		return api.Row{Handle: handle, M: api.Manifest{Id: id, Kind: a.Kind, Label: 1 << (id + 1), Masks: masks, From: from, To: to}, A: a}
	}
	w := world{
		[]api.Row{
			row(30, 6, 5, 80, only(3, 2), api.Asset{Kind: 3, Material: glossy}),
			row(10, 1, 6, 90, only(2, 9), api.Asset{Kind: 3, Material: bright}),
			row(20, 4, 1, 99, [8]uint8{0, 0, 5, 7}, api.Asset{Kind: 1, Mesh: mesh}),
			row(50, 5, 9, 70, only(3, 8), api.Asset{Kind: 2, Texture: texture}),
			row(40, 2, 2, 60, only(3, 1), api.Asset{Kind: 4, Light: light}),
		},
		[]api.Inst{
			{Mesh: 20, Material: 30, Texture: 50, T: affine.Size(2 * api.One)},
			{Mesh: 20, Material: 10, N: 1, T: affine.Same()},
			{Mesh: 20, Material: 30, N: 5, T: moved(-1000)},
		},
	}
	uvs := [2][3][2]int{{{30, 31}, {10, 11}, {20, 21}}, {{20, 21}, {40, 41}, {30, 31}}}
	return w, map[int]api.Scene{
		1: {To: last},
		2: {
			Tris: []api.Tri{
				{P: [3]api.Point{{Z: 3}, {X: 1}, {Y: 2}}, Uv: uvs[0], Tex: -1, Obj: 1, Mask: 5},
				{P: [3]api.Point{{Y: 2}, {X: -4, Y: -5, Z: -6}, {Z: 3}}, Uv: uvs[1], Tex: -1, Obj: 1, Mask: 5},
			},
			Mats: []api.Material{bright},
			Ids:  []uint64{1, 4}, Labels: []uint32{4, 32}, Label: 36, From: 6, To: 90,
		},
		3: {
			Tris: []api.Tri{
				{P: [3]api.Point{{X: -1000, Z: 3}, {X: -999}, {X: -1000, Y: 2}}, Uv: uvs[0], Tex: -1, Mask: 7},
				{P: [3]api.Point{{X: -1000, Y: 2}, {X: -1004, Y: -5, Z: -6}, {X: -1000, Z: 3}}, Uv: uvs[1], Tex: -1, Mask: 7},
				{P: [3]api.Point{{Z: 6}, {X: 2}, {Y: 4}}, Uv: uvs[0], Mask: 7},
				{P: [3]api.Point{{Y: 4}, {X: -8, Y: -10, Z: -12}, {Z: 6}}, Uv: uvs[1], Mask: 7},
			},
			Mats: []api.Material{glossy}, Texs: []api.Texture{texture}, Lights: []api.Light{light},
			Ids: []uint64{4, 6, 2, 5}, Labels: []uint32{32, 128, 8, 64}, Label: 232, From: 9, To: 60,
		},
	}
}
