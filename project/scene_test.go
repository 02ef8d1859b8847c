package project_test

import (
	"math"
	"reflect"
	"slices"
	"testing"

	"umbra/affine"
	"umbra/api"
	"umbra/project"
	"umbra/table"
)

// checkError looks whether Project tells just an error.
func checkError(t *testing.T, x *table.Table, layer int, want api.Errno, what string) {
	t.Helper()
	s, e := project.Project(x, layer)
	expect(t, e, want, what, layer)
	if !same(s, api.Scene{}) {
		t.Errorf("%s, layer %d: beside the error there is %+v", what, layer, s)
	}
}

// full returns a world of two assets of each kind that all layers see, and instances of
// all there is.
func full() world {
	w := world{}
	for handle := 1; handle <= 8; handle++ {
		w.rows = append(w.rows, row(handle, 1+handle%4, all(1)))
	}
	for _, mesh := range []int{4, 8} {
		for _, material := range []int{2, 6} {
			for _, texture := range []int{0, 1, 5} {
				w.insts = append(w.insts, api.Inst{Mesh: mesh, Material: material, Texture: texture, T: moved(len(w.insts))})
			}
		}
	}
	return w
}

func TestNone(t *testing.T) {
	stored := full().table(t)
	*stored = table.Table{}
	var none *table.Table
	for what, x := range map[string]*table.Table{
		"nil": nil, "nil of a type": none, "the copy of nil": none.Copy(), "a zero table": {},
		"the copy of a zero table": new(table.Table).Copy(), "a table over which the zero value is stored": stored,
	} {
		for layer := range 8 {
			checkError(t, x, layer, api.ErrNil, what)
		}
		for _, layer := range noLayers {
			checkError(t, x, layer, api.ErrNil, what)
		}
	}
}

func TestLayers(t *testing.T) {
	for what, x := range map[string]*table.Table{
		"nothing": table.New(), "the copy of nothing": table.New().Copy(), "assets": full().table(t), "the copy of assets": full().table(t).Copy(),
	} {
		for _, layer := range noLayers {
			checkError(t, x, layer, api.ErrLayer, what)
		}
		for layer := range 8 {
			s, e := project.Project(x, layer)
			expect(t, e, api.OK, what, layer)
			if s.To == 0 {
				t.Errorf("%s: layer %d sees %+v", what, layer, s)
			}
		}
	}
}

// TestExample is the chapter's: one instance of a mesh with two triangles.
func TestExample(t *testing.T) {
	w := world{[]api.Row{row(4, 1, all(1)), row(6, 3, all(1))}, []api.Inst{{Mesh: 4, Material: 6, T: affine.Same()}}}
	s := scene(t, w.table(t), 0)
	if len(s.Tris) != 2 || len(s.Mats) != 1 || s.Mats[0] != good(3, 6).Material {
		t.Errorf("%+v", s)
	}
	if len(s.Texs) != 0 || len(s.Lights) != 0 || !slices.Equal(s.Ids, []uint64{1<<40 + 4, 1<<40 + 6}) {
		t.Errorf("%+v", s)
	}
}

func TestNothing(t *testing.T) {
	for what, w := range map[string]world{
		"nothing": {}, "hidden assets": {[]api.Row{row(1, 1, all(0)), row(2, 2, all(0)), row(3, 3, all(0)), row(4, 4, all(0))}, []api.Inst{{Mesh: 1, Material: 3, Texture: 2}}},
	} {
		x := w.table(t)
		for layer := range 8 {
			if s := scene(t, x, layer); !same(s, api.Scene{To: last}) {
				t.Errorf("%s: layer %d sees %+v", what, layer, s)
			}
		}
	}
}

// someMasks returns masks of no bit, of each bit, of several and of all; some have bits
// that no bundle's masks have.
func someMasks() []uint8 { return []uint8{0, 1, 2, 4, 8, 3, 5, 12, 15, 16, 32, 64, 128, 240, 254, 255} }

// TestRows asks each layer for assets that only one layer sees, that all but one see, and
// that all or none see.
func TestRows(t *testing.T) {
	var w world
	draw := draws()
	for layer := range 8 {
		for _, mask := range someMasks() {
			for _, masks := range [][8]uint8{only(layer, mask), but(layer, mask), all(mask)} {
				handle := 1 + len(w.rows)*211%65536
				r := row(handle, 1+draw(4), masks)
				r.M.Id, r.M.Label = uint64(handle)<<32, uint32(handle)
				w.rows = append(w.rows, r)
			}
		}
	}
	w.check(t, "in one order")
	w.rows = shuffled(draw, w.rows)
	w.check(t, "in another order")
	x := w.table(t)
	slices.SortFunc(w.rows, func(a, b api.Row) int { return a.Handle - b.Handle })
	for layer := range 8 {
		var ids []uint64
		var labels []uint32
		for _, r := range w.rows {
			if r.M.Masks[layer] != 0 {
				ids, labels = append(ids, uint64(r.Handle)<<32), append(labels, uint32(r.Handle))
			}
		}
		s := scene(t, x, layer)
		if !slices.Equal(s.Ids, ids) || !slices.Equal(s.Labels, labels) {
			t.Errorf("layer %d sees %v and %v, want %v and %v", layer, s.Ids, s.Labels, ids, labels)
		}
		if len(ids) != 240 {
			t.Errorf("layer %d sees %d assets", layer, len(ids))
		}
	}
}

// TestEachMask asks for one asset with each mask that there may be.
func TestEachMask(t *testing.T) {
	for layer := range 8 {
		for mask := range 256 {
			for _, masks := range [][8]uint8{only(layer, uint8(mask)), but(layer, uint8(mask))} {
				w := world{rows: []api.Row{row(77, 3, masks)}}
				x := w.table(t)
				for asked := range 8 {
					want := 0
					if mask != 0 && (asked == layer) == (masks[layer] != 0) {
						want = 1
					}
					if s := scene(t, x, asked); len(s.Ids) != want || len(s.Mats) != want {
						t.Errorf("with the masks %v layer %d sees %+v", masks, asked, s)
					}
				}
			}
		}
	}
}

// TestRowsInOrder loads handles that would stand in other orders as texts or as numbers of
// fewer bits, with numbers and labels that go the other way.
func TestRowsInOrder(t *testing.T) {
	handles := []int{1, 2, 9, 10, 99, 100, 255, 256, 257, 32767, 32768, 65535, 65536}
	draw := draws()
	for range 20 {
		var w world
		for _, handle := range shuffled(draw, handles) {
			r := row(handle, 3, all(1))
			r.M.Id, r.M.Label = uint64(-handle), 1<<31-uint32(handle)
			r.A.Material.Color = [3]int{handle % 65536, handle / 65536, 5}
			w.rows = append(w.rows, r)
		}
		s := scene(t, w.table(t), 5)
		for i, handle := range handles {
			if s.Ids[i] != uint64(-handle) || s.Labels[i] != 1<<31-uint32(handle) || s.Mats[i].Color != [3]int{handle % 65536, handle / 65536, 5} {
				t.Errorf("at %d there are %d, %d and %v, want those of %d", i, s.Ids[i], s.Labels[i], s.Mats[i], handle)
			}
		}
		if len(s.Ids) != len(handles) || len(s.Labels) != len(handles) || len(s.Mats) != len(handles) {
			t.Errorf("%+v", s)
		}
	}
}

// TestEqualNumbers loads assets with the same numbers and labels: each one is told.
func TestEqualNumbers(t *testing.T) {
	var w world
	for _, handle := range []int{3, 9, 1} {
		r := row(handle, 4, all(1))
		r.M.Id, r.M.Label = 7, 6
		r.A = good(4, 1)
		w.rows = append(w.rows, r)
	}
	s := scene(t, w.table(t), 0)
	if !slices.Equal(s.Ids, []uint64{7, 7, 7}) || !slices.Equal(s.Labels, []uint32{6, 6, 6}) || s.Label != 6 || len(s.Lights) != 3 {
		t.Errorf("%+v", s)
	}
	w.check(t)
}

func TestIdsAsTheyAre(t *testing.T) {
	var w world
	want := []uint64{math.MaxUint64, 0, 1 << 63, 1<<63 - 1, 1}
	for i, id := range want {
		r := row(i+1, 2, all(1))
		r.M.Id = id
		w.rows = append(w.rows, r)
	}
	if s := scene(t, w.table(t), 0); !slices.Equal(s.Ids, want) {
		t.Error(s.Ids)
	}
}

// TestLabel joins just the labels of what the layer sees.
func TestLabel(t *testing.T) {
	var w world
	for bit := range 32 {
		r := row(100-bit, 1+bit%4, only(bit%8, 1))
		r.M.Label = 1 << bit
		w.rows = append(w.rows, r)
	}
	x := w.table(t)
	for layer := range 8 {
		if s := scene(t, x, layer); s.Label != 0x01010101<<layer || len(s.Labels) != 4 || s.Labels[0] != 1<<(24+layer) || s.Labels[3] != 1<<layer {
			t.Errorf("layer %d: %#x, of %v", layer, s.Label, s.Labels)
		}
	}
	for _, labels := range [][]uint32{{}, {0}, {5}, {last}, {0, 0}, {1, 4}, {6, 3, 6}, {0x80000000, 1}, {last, 0}, {1, 2, 4, 8, 16}} {
		w := world{rows: []api.Row{row(1, 3, but(4, 1)), row(65536, 3, but(4, 1))}}
		w.rows[0].M.Label, w.rows[1].M.Label = last, 0x10000000
		want := uint32(0)
		for i, l := range labels {
			r := row(30-i, 3, only(4, 8))
			r.M.Label = l
			w.rows = append(w.rows, r)
			want |= l
		}
		if s := scene(t, w.table(t), 4); s.Label != want {
			t.Errorf("of %v: %#x, want %#x", labels, s.Label, want)
		}
	}
}

// TestWindow meets just the licences of what the layer sees.
func TestWindow(t *testing.T) {
	for _, x := range []struct {
		licences [][2]uint32
		from, to uint32
	}{
		{nil, 0, last},
		{[][2]uint32{{0, 0}}, 0, 0},
		{[][2]uint32{{last, last}}, last, last},
		{[][2]uint32{{0, last}}, 0, last},
		{[][2]uint32{{10, 20}}, 10, 20},
		{[][2]uint32{{1 << 31, 1<<31 + 1}}, 1 << 31, 1<<31 + 1},
		{[][2]uint32{{10, 20}, {15, 30}}, 15, 20},
		{[][2]uint32{{15, 30}, {10, 20}}, 15, 20},
		{[][2]uint32{{10, 40}, {20, 30}}, 20, 30},
		{[][2]uint32{{20, 30}, {10, 40}}, 20, 30},
		{[][2]uint32{{10, 20}, {20, 30}}, 20, 20},
		{[][2]uint32{{20, 30}, {10, 20}}, 20, 20},
		{[][2]uint32{{10, 20}, {21, 30}}, 21, 20},
		{[][2]uint32{{21, 30}, {10, 20}}, 21, 20},
		{[][2]uint32{{0, 5}, {last - 5, last}}, last - 5, 5},
		{[][2]uint32{{7, 7}, {7, 7}}, 7, 7},
		{[][2]uint32{{3, 9}, {1, 7}, {5, 8}}, 5, 7},
		{[][2]uint32{{1, 7}, {5, 8}, {3, 9}, {6, 6}}, 6, 6},
		{[][2]uint32{{9, 4}}, 9, 4},
		{[][2]uint32{{9, 4}, {2, 6}}, 9, 4},
	} {
		w := world{rows: []api.Row{row(2, 4, but(6, 1)), row(64, 3, but(6, 1))}}
		w.rows[0].M.From, w.rows[0].M.To = 1<<32-7, last
		w.rows[1].M.From, w.rows[1].M.To = 0, 0
		for i, licence := range x.licences {
			r := row(50-i, 1+i%4, only(6, 2))
			r.M.From, r.M.To = licence[0], licence[1]
			w.rows = append(w.rows, r)
		}
		if s := scene(t, w.table(t), 6); s.From != x.from || s.To != x.to {
			t.Errorf("%v meet from %d to %d, want from %d to %d", x.licences, s.From, s.To, x.from, x.to)
		}
	}
}

// TestParts looks at the lists of materials, textures and lights where rows of other kinds
// and hidden ones lie between.
func TestParts(t *testing.T) {
	var w world
	for handle := 40; handle >= 1; handle-- {
		masks := all(1)
		if handle%5 == 0 {
			masks = but(2, 1)
		}
		w.rows = append(w.rows, row(handle, 1+handle%4, masks))
	}
	s := scene(t, w.table(t), 2)
	var texs []api.Texture
	for _, handle := range []int{1, 9, 13, 17, 21, 29, 33, 37} {
		texs = append(texs, good(2, handle).Texture)
	}
	var mats []api.Material
	for _, handle := range []int{2, 6, 14, 18, 22, 26, 34, 38} {
		mats = append(mats, good(3, handle).Material)
	}
	var lights []api.Light
	for _, handle := range []int{3, 7, 11, 19, 23, 27, 31, 39} {
		lights = append(lights, good(4, handle).Light)
	}
	if !reflect.DeepEqual(s.Texs, texs) || !slices.Equal(s.Mats, mats) || !slices.Equal(s.Lights, lights) {
		t.Errorf("%+v, want %v, %v and %v", s, texs, mats, lights)
	}
	if len(s.Tris) != 0 || len(s.Ids) != 32 {
		t.Errorf("%+v", s)
	}
	w.check(t)
}

// TestOneKind loads assets of one kind alone: the lists of the others have none.
func TestOneKind(t *testing.T) {
	for kind := 1; kind <= 4; kind++ {
		for many := range 4 {
			var w world
			for i := range many {
				w.rows = append(w.rows, row(20-3*i, kind, all(4)))
			}
			s := scene(t, w.table(t), 7)
			got := []int{len(s.Tris), len(s.Texs), len(s.Mats), len(s.Lights), len(s.Ids), len(s.Labels)}
			want := []int{0, 0, 0, 0, many, many}
			if kind > 1 {
				want[kind-1] = many
			}
			if !slices.Equal(got, want) {
				t.Errorf("of %d assets of kind %d: %+v", many, kind, s)
			}
			w.check(t, kind, many)
		}
	}
}

// TestPartsWhole looks whether every number of a part is told as it was loaded.
func TestPartsWhole(t *testing.T) {
	material := api.Material{Kind: 4, Color: [3]int{0, 65535, 32768}, Rough: 65535}
	light := api.Light{Kind: 1, Color: [3]int{1 << 20, 0, 1}, At: api.Point{X: 1, Y: -2, Z: 3}, U: api.Point{X: -4, Y: 5, Z: -6}, V: api.Point{X: 4096, Y: -4096, Z: 9}}
	texture := api.Texture{Side: 16}
	for i := range 256 {
		texture.Texels = append(texture.Texels, [3]int{i, 255 - i, i * 7 % 256})
	}
	w := world{rows: []api.Row{row(1, 3, all(1)), row(2, 4, all(1)), row(3, 2, all(1)), row(4, 4, all(1)), row(5, 2, all(1))}}
	w.rows[0].A.Material, w.rows[1].A.Light, w.rows[2].A.Texture = material, light, texture
	w.rows[3].A.Light = api.Light{Kind: 2, Color: [3]int{7, 8, 9}}
	w.rows[4].A.Texture = api.Texture{Side: 1, Texels: [][3]int{{1, 2, 3}}}
	s := scene(t, w.table(t), 0)
	if !slices.Equal(s.Mats, []api.Material{material}) || !slices.Equal(s.Lights, []api.Light{light, w.rows[3].A.Light}) {
		t.Errorf("%+v", s)
	}
	if !reflect.DeepEqual(s.Texs, []api.Texture{texture, w.rows[4].A.Texture}) {
		t.Errorf("%+v", s)
	}
}
