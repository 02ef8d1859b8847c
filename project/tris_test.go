package project_test

import (
	"slices"
	"testing"

	"umbra/affine"
	"umbra/api"
)

// stage returns a world in which layer 0 sees a mesh (20), a material (30) and a texture
// (40), with one instance of these where a puts it, and the texture or none.
func stage(m api.Mesh, a api.Affine, textured bool) world {
	w := world{rows: []api.Row{row(20, 1, only(0, 1)), row(30, 3, only(0, 1)), row(40, 2, only(0, 1))}}
	w.rows[0].A.Mesh = m
	i := api.Inst{Mesh: 20, Material: 30, T: a}
	if textured {
		i.Texture = 40
	}
	w.insts = []api.Inst{i}
	return w
}

// corner returns a mesh of one triangle, at the places that are told.
func corner(a, b, c api.Point) api.Mesh {
	return api.Mesh{Verts: []api.Point{a, b, c}, Uvs: make([][2]int, 3), Tris: [][3]int{{0, 1, 2}}}
}

// fixed returns a transform of whole numbers: the rows of M, and T.
func fixed(x, y, z [3]int, move api.Point) (a api.Affine) {
	for i, n := range slices.Concat(x[:], y[:], z[:]) {
		a.M[i] = api.Fix(n) * api.One
	}
	a.T = api.Vec{X: api.Fix(move.X) * api.One, Y: api.Fix(move.Y) * api.One, Z: api.Fix(move.Z) * api.One}
	return a
}

// TestPlaces looks where transforms put the corners; the places are written out.
func TestPlaces(t *testing.T) {
	quarter := api.One / 4
	for what, x := range map[string]struct {
		a    api.Affine
		want [3]api.Point
	}{
		"the identity":    {affine.Same(), [3]api.Point{{X: 10, Y: 20, Z: 30}, {X: -40, Y: 50, Z: -60}, {X: 7, Y: -8, Z: 9}}},
		"a move":          {fixed([3]int{1}, [3]int{0, 1}, [3]int{0, 0, 1}, api.Point{X: 100, Y: -200, Z: 300}), [3]api.Point{{X: 110, Y: -180, Z: 330}, {X: 60, Y: -150, Z: 240}, {X: 107, Y: -208, Z: 309}}},
		"a quarter of Z":  {fixed([3]int{0, -1}, [3]int{1}, [3]int{0, 0, 1}, api.Point{}), [3]api.Point{{X: -20, Y: 10, Z: 30}, {X: -50, Y: -40, Z: -60}, {X: 8, Y: 7, Z: 9}}},
		"a quarter of X":  {fixed([3]int{1}, [3]int{0, 0, -1}, [3]int{0, 1}, api.Point{}), [3]api.Point{{X: 10, Y: -30, Z: 20}, {X: -40, Y: 60, Z: 50}, {X: 7, Y: -9, Z: -8}}},
		"a third turn":    {fixed([3]int{0, 1}, [3]int{0, 0, 1}, [3]int{1}, api.Point{X: 1}), [3]api.Point{{X: 21, Y: 30, Z: 10}, {X: 51, Y: -60, Z: -40}, {X: -7, Y: 9, Z: 7}}},
		"a size":          {affine.Size(3 * api.One), [3]api.Point{{X: 30, Y: 60, Z: 90}, {X: -120, Y: 150, Z: -180}, {X: 21, Y: -24, Z: 27}}},
		"three sizes":     {affine.Size(2*api.One, -api.One, 0), [3]api.Point{{X: 20, Y: -20}, {X: -80, Y: -50}, {X: 14, Y: 8}}},
		"a fourth":        {affine.Size(quarter), [3]api.Point{{X: 3, Y: 5, Z: 8}, {X: -10, Y: 13, Z: -15}, {X: 2, Y: -2, Z: 2}}},
		"a move by 1/4":   {affine.Move(api.Vec{X: quarter, Y: 2 * quarter, Z: 3 * quarter}), [3]api.Point{{X: 10, Y: 21, Z: 31}, {X: -40, Y: 51, Z: -59}, {X: 7, Y: -7, Z: 10}}},
		"a slope":         {fixed([3]int{1, 2, 3}, [3]int{0, 1, 4}, [3]int{0, 0, 1}, api.Point{Z: 5}), [3]api.Point{{X: 140, Y: 140, Z: 35}, {X: -120, Y: -190, Z: -55}, {X: 18, Y: 28, Z: 14}}},
		"a size and move": {fixed([3]int{2}, [3]int{0, 2}, [3]int{0, 0, 2}, api.Point{X: 1}), [3]api.Point{{X: 21, Y: 40, Z: 60}, {X: -79, Y: 100, Z: -120}, {X: 15, Y: -16, Z: 18}}},
		"one place":       {fixed([3]int{}, [3]int{}, [3]int{}, api.Point{X: 1, Y: 2, Z: -65536}), [3]api.Point{{X: 1, Y: 2, Z: -65536}, {X: 1, Y: 2, Z: -65536}, {X: 1, Y: 2, Z: -65536}}},
	} {
		w := stage(corner(api.Point{X: 10, Y: 20, Z: 30}, api.Point{X: -40, Y: 50, Z: -60}, api.Point{X: 7, Y: -8, Z: 9}), x.a, false)
		s := scene(t, w.table(t), 0)
		if len(s.Tris) != 1 || s.Tris[0].P != x.want {
			t.Errorf("%s leads to %+v, want %v", what, s.Tris, x.want)
		}
		w.check(t, what)
	}
}

// TestPlacesAtTheEdge puts corners at the edges of the grid, with the greatest numbers
// that a transform may have.
func TestPlacesAtTheEdge(t *testing.T) {
	m := corner(api.Point{X: 4096, Y: -4096, Z: 4096}, api.Point{X: -4096, Y: 4096, Z: -4096}, api.Point{})
	s := scene(t, stage(m, affine.Size(16*api.One), true).table(t), 0)
	if want := [3]api.Point{{X: 65536, Y: -65536, Z: 65536}, {X: -65536, Y: 65536, Z: -65536}, {}}; s.Tris[0].P != want {
		t.Errorf("%v, want %v", s.Tris[0].P, want)
	}
	m = corner(api.Point{X: 256, Y: 1}, api.Point{X: -256, Z: -1}, api.Point{X: 255, Y: 255, Z: 255})
	s = scene(t, stage(m, affine.Size(256*api.One), true).table(t), 0)
	if want := [3]api.Point{{X: 65536, Y: 256}, {X: -65536, Z: -256}, {X: 65280, Y: 65280, Z: 65280}}; s.Tris[0].P != want {
		t.Errorf("%v, want %v", s.Tris[0].P, want)
	}
	m = corner(api.Point{X: 300}, api.Point{X: 301}, api.Point{X: 302})
	a := affine.Size(-256 * api.One)
	a.T.X = 131072 * api.One
	s = scene(t, stage(m, a, true).table(t), 0)
	if want := [3]api.Point{{X: 54272}, {X: 54016}, {X: 53760}}; s.Tris[0].P != want {
		t.Errorf("%v, want %v", s.Tris[0].P, want)
	}
}

// drawnMesh returns a mesh of up to so many vertices and triangles.
func drawnMesh(draw func(int) int, many int) (m api.Mesh) {
	for range 3 + draw(many-2) {
		m.Verts = append(m.Verts, api.Point{X: draw(8193) - 4096, Y: draw(8193) - 4096, Z: draw(8193) - 4096})
		m.Uvs = append(m.Uvs, [2]int{draw(65536), draw(65536)})
	}
	for range 1 + draw(many) {
		c := shuffled(draw, []int{draw(len(m.Verts)), draw(len(m.Verts)), draw(len(m.Verts))})
		for c[0] == c[1] || c[1] == c[2] || c[2] == c[0] {
			c = []int{draw(len(m.Verts)), draw(len(m.Verts)), draw(len(m.Verts))}
		}
		m.Tris = append(m.Tris, [3]int(c))
	}
	return m
}

// drawnTransform returns one that leaves every mesh on the grid.
func drawnTransform(draw func(int) int) (a api.Affine) {
	for i := range a.M {
		a.M[i] = api.Fix(draw(10<<32)) - 5*api.One
	}
	a.T = api.Vec{X: api.Fix(draw(8000<<32)) - 4000*api.One, Y: api.Fix(draw(8000<<32)) - 4000*api.One, Z: api.Fix(draw(8000<<32)) - 4000*api.One}
	return a
}

func TestDrawnMeshes(t *testing.T) {
	draw := draws()
	for i := range 300 {
		stage(drawnMesh(draw, 3+i%62), drawnTransform(draw), i%2 == 0).check(t, i)
	}
}

// TestGreatestMesh puts a mesh of 64 vertices and 64 triangles several times.
func TestGreatestMesh(t *testing.T) {
	var m api.Mesh
	for i := range 64 {
		m.Verts = append(m.Verts, api.Point{X: i, Y: 2 * i, Z: -i})
		m.Uvs = append(m.Uvs, [2]int{i, 65535 - i})
		m.Tris = append(m.Tris, [3]int{i, (i + 63) % 64, (i + 2) % 64})
	}
	w := stage(m, moved(0), true)
	for n := 1; n < 5; n++ {
		i := w.insts[0]
		i.N, i.T = n, moved(1000*n)
		w.insts = append(w.insts, i)
	}
	s := scene(t, w.table(t), 0)
	if len(s.Tris) != 320 {
		t.Fatalf("%d triangles, want 320", len(s.Tris))
	}
	for i, tri := range s.Tris {
		n, k := i/64, i%64
		for j, v := range []int{k, (k + 63) % 64, (k + 2) % 64} {
			if tri.P[j] != (api.Point{X: 1000*n + v, Y: 2 * v, Z: -v}) || tri.Uv[j] != [2]int{v, 65535 - v} {
				t.Fatalf("triangle %d is %+v", i, tri)
			}
		}
	}
}

// TestCorners looks at triangles that share vertices, in each order of the corners, at
// vertices that no triangle names, and at such that lie at one place.
func TestCorners(t *testing.T) {
	m := api.Mesh{
		Verts: []api.Point{{X: 1}, {X: 1}, {X: 3}, {X: 4}, {X: 4096, Y: 4096, Z: 4096}},
		Uvs:   [][2]int{{0, 65535}, {1, 2}, {65535, 0}, {5, 5}, {9, 9}},
		Tris:  [][3]int{{0, 1, 2}, {2, 1, 0}, {1, 2, 0}, {0, 1, 2}, {3, 0, 1}, {1, 3, 2}},
	}
	s := scene(t, stage(m, moved(10), false).table(t), 0)
	if len(s.Tris) != 6 {
		t.Fatalf("%+v", s.Tris)
	}
	for i, x := range []struct {
		at [3]int
		uv [3][2]int
	}{
		{[3]int{11, 11, 13}, [3][2]int{{0, 65535}, {1, 2}, {65535, 0}}},
		{[3]int{13, 11, 11}, [3][2]int{{65535, 0}, {1, 2}, {0, 65535}}},
		{[3]int{11, 13, 11}, [3][2]int{{1, 2}, {65535, 0}, {0, 65535}}},
		{[3]int{11, 11, 13}, [3][2]int{{0, 65535}, {1, 2}, {65535, 0}}},
		{[3]int{14, 11, 11}, [3][2]int{{5, 5}, {0, 65535}, {1, 2}}},
		{[3]int{11, 14, 13}, [3][2]int{{1, 2}, {5, 5}, {65535, 0}}},
	} {
		want := api.Tri{P: [3]api.Point{{X: x.at[0]}, {X: x.at[1]}, {X: x.at[2]}}, Uv: x.uv, Tex: -1, Mask: 1}
		if s.Tris[i] != want {
			t.Errorf("triangle %d is %+v, want %+v", i, s.Tris[i], want)
		}
	}
}

// TestOneVertexTwice tries to load triangles that name one vertex twice: no table holds
// them, so that no scene has them.
func TestOneVertexTwice(t *testing.T) {
	for _, tri := range [][3]int{{1, 1, 2}, {1, 2, 1}, {2, 1, 1}, {0, 0, 0}} {
		w := stage(corner(api.Point{X: 1}, api.Point{X: 2}, api.Point{X: 3}), moved(7), true)
		x := w.table(t)
		want := scene(t, x, 0)
		r := row(21, 1, only(0, 1))
		r.A.Mesh.Tris = [][3]int{{0, 1, 2}, tri}
		expect(t, x.Load(21, r.M, r.A), api.ErrForm, tri)
		expect(t, x.Put(api.Inst{Mesh: 21, Material: 30, T: moved(1)}), api.ErrNone, tri)
		if got := scene(t, x, 0); !same(got, want) || len(got.Tris) != 1 {
			t.Errorf("%v: the scene became %+v, want %+v", tri, got, want)
		}
	}
}

// TestInstsInOrder puts instances of every name there may be of a few handles, in drawn
// orders: an earlier component counts before all later ones, and hidden ones leave no gap.
func TestInstsInOrder(t *testing.T) {
	var w world
	for _, handle := range []int{2, 10, 300, 65535} {
		w.rows = append(w.rows, row(handle, 1, all(1)))
	}
	for _, handle := range []int{1, 9, 256, 65536} {
		w.rows = append(w.rows, row(handle, 3, all(1)))
	}
	for _, handle := range []int{3, 11, 255} {
		w.rows = append(w.rows, row(handle, 2, all(1)))
	}
	w.rows[1].M.Masks, w.rows[4].M.Masks, w.rows[9].M.Masks = but(1, 1), but(2, 1), but(3, 1)
	draw := draws()
	var insts []api.Inst
	var places []int
	for _, mesh := range []int{2, 10, 300, 65535} {
		for _, material := range []int{1, 9, 256, 65536} {
			for _, texture := range []int{0, 3, 11, 255} {
				for _, n := range []int{0, 2, 10, 65536} {
					// Where it stands is told by X, and is less for what comes later.
					insts = append(insts, api.Inst{Mesh: mesh, Material: material, Texture: texture, N: n, T: fixed([3]int{}, [3]int{}, [3]int{}, api.Point{X: -len(insts)})})
					places = append(places, 1-len(insts), 1-len(insts))
				}
			}
		}
	}
	for range 5 {
		w.insts = shuffled(draw, insts)
		w.rows = shuffled(draw, w.rows)
		var got []int
		for _, tri := range scene(t, w.table(t), 0).Tris {
			got = append(got, tri.P[0].X)
		}
		if !slices.Equal(got, places) {
			t.Errorf("the triangles stand at %v, want %v", got, places)
		}
		w.check(t)
	}
}

// TestNeeds hides one or more of what an instance needs, with a texture and without, from
// one layer: it sees no triangle of it, but those of another instance.
func TestNeeds(t *testing.T) {
	for textured := range 2 {
		for hidden := range 8 {
			m := corner(api.Point{X: 1}, api.Point{X: 2}, api.Point{X: 3})
			w := stage(m, moved(5), textured == 1)
			for i := range w.rows {
				w.rows[i].M.Masks = all(2)
				if hidden>>i%2 == 1 {
					w.rows[i].M.Masks = but(6, 2)
				}
			}
			w = w.with([]api.Row{row(19, 1, all(1)), row(29, 3, all(1)), row(39, 2, all(1))}, api.Inst{Mesh: 19, Material: 29, Texture: 39, T: moved(77)})
			x := w.table(t)
			for layer := range 8 {
				want := 3
				if layer == 6 && (hidden&3 != 0 || hidden == 4 && textured == 1) {
					want = 2
				}
				s := scene(t, x, layer)
				if len(s.Tris) != want || s.Tris[0].P[0].X != 19+77 {
					t.Errorf("layer %d sees %+v, want %d triangles", layer, s.Tris, want)
				}
			}
			w.check(t, textured, hidden)
		}
	}
}

// TestNeedsOfEach hides one asset after the other of a world in which each is needed by
// several instances.
func TestNeedsOfEach(t *testing.T) {
	for hidden := range 8 {
		w := full()
		w.rows[hidden].M.Masks = but(4, 1)
		w.check(t, hidden)
		handle, x := w.rows[hidden].Handle, w.table(t)
		want := 24
		switch w.rows[hidden].A.Kind {
		case 1, 3:
			want = 12
		case 2:
			want = 16
		}
		if got := scene(t, x, 4); len(got.Tris) != want || len(got.Ids) != 7 {
			t.Errorf("without %d there are %d triangles, want %d", handle, len(got.Tris), want)
		}
		if got := scene(t, x, 3); len(got.Tris) != 24 || len(got.Ids) != 8 {
			t.Errorf("with %d there are %d triangles, want 24", handle, len(got.Tris))
		}
	}
}

// TestTextures puts a mesh with no texture, and with each of several.
func TestTextures(t *testing.T) {
	w := stage(corner(api.Point{X: 1}, api.Point{X: 2}, api.Point{X: 3}), moved(5), false)
	w = w.with([]api.Row{row(1, 2, all(1)), row(50, 2, all(1)), row(5, 2, but(0, 1))})
	for _, texture := range []int{1, 40, 50, 5} {
		w.insts = append(w.insts, api.Inst{Mesh: 20, Material: 30, Texture: texture, T: affine.Same()})
	}
	var got []int
	for _, tri := range scene(t, w.table(t), 0).Tris {
		got = append(got, tri.Tex)
	}
	if !slices.Equal(got, []int{-1, 0, 1, 2}) {
		t.Errorf("the indexes are %v", got)
	}
	w.rows = slices.DeleteFunc(w.rows, func(r api.Row) bool { return r.A.Kind == 2 })
	w.insts = w.insts[:1]
	if s := scene(t, w.table(t), 0); len(s.Tris) != 1 || s.Tris[0].Tex != -1 || len(s.Texs) != 0 {
		t.Errorf("without any texture: %+v", s)
	}
}

// TestIndexes lays hidden rows of each kind before, between and behind those that are
// seen: an index counts what is seen, and Mat and Tex count just their kinds.
func TestIndexes(t *testing.T) {
	// Seen are the meshes 20, 60, the materials 30, 70, the textures 40, 80 and the light 50.
	w := world{}
	for i, kind := range []int{1, 3, 2, 4, 1, 3, 2} {
		w.rows = append(w.rows, row(20+10*i, kind, all(1)))
	}
	for _, mesh := range []int{60, 20} {
		for _, material := range []int{70, 30} {
			for _, texture := range []int{80, 40, 0} {
				w.insts = append(w.insts, api.Inst{Mesh: mesh, Material: material, Texture: texture, T: affine.Same()})
			}
		}
	}
	var want [][3]int
	for _, obj := range []int{0, 4} {
		for mat := range 2 {
			for tex := -1; tex < 2; tex++ {
				want = append(want, [3]int{mat, tex, obj}, [3]int{mat, tex, obj}) // two triangles each
			}
		}
	}
	for hidden := range 256 {
		x := w
		for bit := range 8 {
			for kind := 1; hidden>>bit%2 == 1 && kind <= 4; kind++ {
				x = x.with([]api.Row{row(10+10*bit+kind, kind, but(3, 15))})
			}
		}
		var got [][3]int
		for _, tri := range scene(t, x.table(t), 3).Tris {
			got = append(got, [3]int{tri.Mat, tri.Tex, tri.Obj})
		}
		if !slices.Equal(got, want) {
			t.Errorf("with hidden rows %#x the indexes are %v, want %v", hidden, got, want)
		}
	}
}

// TestMask tells the mask that the mesh has for the layer, whatever those of the material
// and of the texture are.
func TestMask(t *testing.T) {
	for _, mask := range someMasks() {
		for layer := range 8 {
			w := stage(corner(api.Point{X: 1}, api.Point{X: 2}, api.Point{X: 3}), moved(5), true)
			w.rows[0].M.Masks = all(^mask)
			w.rows[0].M.Masks[layer] = mask
			w.rows[1].M.Masks, w.rows[2].M.Masks = all(2), all(4)
			s := scene(t, w.table(t), layer)
			if mask == 0 {
				if len(s.Tris) != 0 {
					t.Errorf("of no mask layer %d sees %+v", layer, s.Tris)
				}
				continue
			}
			if len(s.Tris) != 1 || s.Tris[0].Mask != mask {
				t.Errorf("of the mask %d layer %d sees %+v", mask, layer, s.Tris)
			}
			w.check(t, mask, layer)
		}
	}
}

// TestMasksOfAll asks all layers for one mesh with another mask for each.
func TestMasksOfAll(t *testing.T) {
	w := stage(good(1, 1).Mesh, moved(5), true)
	w.rows[0].M.Masks = [8]uint8{1, 0, 15, 8, 4, 3, 0, 14}
	w.rows[1].M.Masks, w.rows[2].M.Masks = all(1), all(1)
	x := w.table(t)
	for layer, mask := range w.rows[0].M.Masks {
		s := scene(t, x, layer)
		if mask == 0 && len(s.Tris) == 0 {
			continue
		}
		if len(s.Tris) != 2 || s.Tris[0].Mask != mask || s.Tris[1].Mask != mask {
			t.Errorf("layer %d sees %+v, want the mask %d", layer, s.Tris, mask)
		}
	}
}

// TestManyInsts puts far more instances than any class has triangles.
func TestManyInsts(t *testing.T) {
	w := stage(corner(api.Point{X: 1}, api.Point{X: 2}, api.Point{X: 3}), moved(0), true)
	for i := 1; i < 3000; i++ {
		inst := w.insts[0]
		inst.N, inst.T = i, moved(i)
		w.insts = append(w.insts, inst)
	}
	s := scene(t, w.table(t), 0)
	for i, tri := range s.Tris {
		if tri.P[2].X != i+3 {
			t.Fatalf("triangle %d is %+v", i, tri)
		}
	}
	if len(s.Tris) != 3000 {
		t.Errorf("%d triangles", len(s.Tris))
	}
}
