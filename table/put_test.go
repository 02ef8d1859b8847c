package table_test

import (
	"slices"
	"testing"

	"umbra/affine"
	"umbra/api"
)

// noNumbers are beside and far from the numbers of instances. Some are numbers in 16 or
// 32 bits.
var noNumbers = []int{
	-1, 65537, least, most, -2, 65538, -65536, -65537, 131072, 1<<31 - 1, 1 << 31, 1 << 32, 1<<32 + 3, -1<<32 + 3, least + 1, least + 3, most - 1,
}

func TestPutNumbers(t *testing.T) {
	b := scene(t)
	for _, texture := range []int{0, 7} {
		for _, n := range noNumbers {
			expect(t, b.put(api.Inst{Mesh: 10, Material: 5, Texture: texture, N: n, T: affine.Same()}), api.ErrArg, n)
		}
		for _, n := range []int{0, 65536, 1, 2, 65535, 255, 256, 32767, 32768, 5, 7, 10, 9} {
			expect(t, b.put(api.Inst{Mesh: 10, Material: 5, Texture: texture, N: n, T: moved(n % 100)}), api.OK, n)
			expect(t, b.put(api.Inst{Mesh: 10, Material: 5, Texture: texture, N: n, T: moved(n % 100)}), api.ErrDup, n)
		}
	}
	if got := len(b.table.Insts()); got != 26 {
		t.Errorf("%d instances, want 26", got)
	}
}

// TestPutParts puts instances of assets that are there, that are not, and that are of
// another kind, in each of the three places at once.
func TestPutParts(t *testing.T) {
	missing := []int{1, 11, 65536, -1, 65537, least, most, -10, -5, -7, 10 + 1<<32, 5 + 1<<16, 7 + 1<<32}
	candidates := slices.Concat(meshes, materials, textures, lights, missing, []int{0})
	b := scene(t)
	for _, mesh := range candidates {
		for _, material := range candidates {
			for _, texture := range candidates {
				want := api.OK
				if !slices.Contains(meshes, mesh) || !slices.Contains(materials, material) || texture != 0 && !slices.Contains(textures, texture) {
					want = api.ErrKind
				}
				if slices.Contains(missing, mesh) || slices.Contains(missing, material) || slices.Contains(missing, texture) || mesh == 0 || material == 0 {
					want = api.ErrNone
				}
				i := api.Inst{Mesh: mesh, Material: material, Texture: texture, N: 3, T: moved(4)}
				expect(t, b.put(i), want, mesh, material, texture)
				if want != api.OK {
					continue
				}
				if got := b.table.Insts(); !slices.Equal(got, []api.Inst{i}) {
					t.Errorf("there are %v, want %v", got, i)
				}
				expect(t, b.take(i), api.OK, i)
			}
		}
	}
}

func TestPutOfNothing(t *testing.T) {
	b := start(t)
	expect(t, b.put(api.Inst{}), api.ErrNone, "zero")
	expect(t, b.put(api.Inst{N: -1}), api.ErrArg, "-1")
	expect(t, b.loadGood(1, 1), api.OK, "mesh")
	expect(t, b.put(api.Inst{Mesh: 1}), api.ErrNone, "mesh alone")
	expect(t, b.put(api.Inst{Mesh: 1, Material: 1}), api.ErrKind, "a mesh as material")
	expect(t, b.loadGood(2, 3), api.OK, "material")
	expect(t, b.put(api.Inst{Material: 2}), api.ErrNone, "material alone")
	expect(t, b.put(api.Inst{Mesh: 2, Material: 1}), api.ErrKind, "exchanged")
	expect(t, b.put(api.Inst{Mesh: 1, Material: 2, Texture: 3}), api.ErrNone, "no texture")
	expect(t, b.put(api.Inst{Mesh: 1, Material: 2, Texture: 1}), api.ErrKind, "a mesh as texture")
	expect(t, b.put(api.Inst{Mesh: 1, Material: 2}), api.OK, "all to the point 0")
}

// transforms returns such as Put accepts for the meshes of scene, such as lead a vertex of
// theirs off the grid, and such as affine refuses.
func transforms() (good, off, refused []api.Affine) {
	turned := affine.Axes(api.Vec{Y: api.One}, api.Vec{X: -api.One}, api.Vec{Z: 3}, api.Vec{X: 5, Y: -1, Z: api.One / 2})
	good = []api.Affine{affine.Same(), {}, moved(65436), moved(-65496), affine.Size(256 * api.One), affine.Size(-api.One), turned}
	off = []api.Affine{moved(65437), moved(-65497), moved(131072), affine.Then(affine.Size(256*api.One), moved(65536))}
	refused = []api.Affine{
		moved(1 << 18), affine.Size(256*api.One + 1), affine.Size(700 * api.One),
		{M: [9]api.Fix{8: 1 << 62}}, {M: [9]api.Fix{3: -1 << 63}}, {T: api.Vec{Z: 1<<49 + 1}},
	}
	return good, off, refused
}

// TestPutDup puts names again, with transforms of all sorts; the first one stays.
func TestPutDup(t *testing.T) {
	good, off, refused := transforms()
	for _, first := range good {
		b := scene(t)
		i := api.Inst{Mesh: 10, Material: 30, Texture: 7, N: 6, T: first}
		expect(t, b.put(i), api.OK, first)
		for _, second := range slices.Concat(good, off, refused) {
			expect(t, b.put(api.Inst{Mesh: 10, Material: 30, Texture: 7, N: 6, T: second}), api.ErrDup, first, second)
		}
		if got := b.table.Insts(); !slices.Equal(got, []api.Inst{i}) {
			t.Errorf("there are %v, want %v", got, i)
		}
	}
}

// TestPutNames puts names that differ in one component alone from another one.
func TestPutNames(t *testing.T) {
	for _, x := range []struct{ first, second api.Inst }{
		{api.Inst{Mesh: 10, Material: 5, Texture: 7, N: 1}, api.Inst{Mesh: 20, Material: 5, Texture: 7, N: 1}},
		{api.Inst{Mesh: 10, Material: 5, Texture: 7, N: 1}, api.Inst{Mesh: 10, Material: 30, Texture: 7, N: 1}},
		{api.Inst{Mesh: 10, Material: 5, Texture: 7, N: 1}, api.Inst{Mesh: 10, Material: 5, Texture: 40, N: 1}},
		{api.Inst{Mesh: 10, Material: 5, Texture: 0, N: 1}, api.Inst{Mesh: 10, Material: 5, Texture: 7, N: 1}},
		{api.Inst{Mesh: 10, Material: 5, Texture: 7, N: 1}, api.Inst{Mesh: 10, Material: 5, Texture: 7, N: 2}},
	} {
		for _, order := range orders([]api.Inst{x.first, x.second}) {
			b := scene(t)
			expect(t, b.put(order[0]), api.OK, order)
			expect(t, b.take(order[1]), api.ErrNone, order)
			expect(t, b.put(order[1]), api.OK, order)
			if got := b.table.Insts(); !slices.Equal(got, []api.Inst{x.first, x.second}) {
				t.Errorf("there are %v, want %v", got, x)
			}
			expect(t, b.take(order[1]), api.OK, order)
			if got := b.table.Insts(); !slices.Equal(got, order[:1]) {
				t.Errorf("there are %v, want %v", got, order[0])
			}
		}
	}
}

// spike returns a mesh with so many vertices, all of them the zero point but one.
func spike(vertices, at int, p api.Point) api.Asset {
	m := api.Mesh{Verts: make([]api.Point, vertices), Uvs: make([][2]int, vertices), Tris: [][3]int{{0, 1, 2}}}
	m.Verts[at] = p
	return api.Asset{Kind: 1, Mesh: m}
}

// axes are the three axes, both ways.
func axes() []api.Point {
	return []api.Point{{X: 1}, {Y: 1}, {Z: 1}, {X: -1}, {Y: -1}, {Z: -1}}
}

// along returns a point so far along an axis.
func along(axis api.Point, n int) api.Point {
	return api.Point{X: axis.X * n, Y: axis.Y * n, Z: axis.Z * n}
}

// shifted returns the transform that moves so far along an axis, in parts of 2^-32.
func shifted(axis api.Point, n int) api.Affine {
	p := along(axis, n)
	return affine.Move(api.Vec{X: api.Fix(p.X), Y: api.Fix(p.Y), Z: api.Fix(p.Z)})
}

// TestPutVertices moves meshes of which one vertex stands out, the first, one in the
// middle or the last, to the edge of the grid and over it. The last ones are no corners
// of a triangle, but count.
func TestPutVertices(t *testing.T) {
	const one, half = 1 << 32, 1 << 31
	for _, vertices := range []int{3, 4, 5, 64} {
		for _, at := range []int{0, 1, vertices / 2, vertices - 2, vertices - 1} {
			for _, axis := range axes() {
				b := start(t)
				expect(t, b.load(2, about(1, 1), spike(vertices, at, along(axis, 100))), api.OK, "mesh")
				expect(t, b.load(1, about(3, 1), good(3, 1)), api.OK, "material")
				// The coordinate 65536 + 1/2 is rounded off the grid, -65536 - 1/2 is not.
				over := half
				if axis.X+axis.Y+axis.Z < 0 {
					over = half + 1
				}
				edge := (65536 - 100) * one
				for n, x := range []struct {
					move int
					want api.Errno
				}{
					{0, api.OK}, {edge, api.OK}, {edge + over - 1, api.OK}, {edge + over, api.ErrGrid}, {edge + one, api.ErrGrid}, {edge + 99*one, api.ErrGrid},
					{131072 * one, api.ErrGrid}, {131072*one + 1, api.ErrArg}, {most, api.ErrArg}, {-edge, api.OK}, {-65536 * one, api.OK}, {-65538 * one, api.ErrGrid},
				} {
					i := api.Inst{Mesh: 2, Material: 1, N: n, T: shifted(axis, x.move)}
					expect(t, b.put(i), x.want, vertices, at, axis, x.move)
				}
			}
		}
	}
}

// TestPutMatrix puts with each element of the matrix beyond its bounds, also where the
// move is, or the places are off the grid.
func TestPutMatrix(t *testing.T) {
	b := scene(t)
	n := 0
	for element := range 9 {
		for _, x := range []struct {
			value api.Fix
			want  api.Errno
		}{
			{256 * api.One, api.OK}, {-256 * api.One, api.OK}, {256*api.One + 1, api.ErrArg}, {-256*api.One - 1, api.ErrArg}, {most, api.ErrArg}, {least, api.ErrArg},
		} {
			for _, move := range []api.Vec{{}, {X: 131072 * api.One}, {Y: 131072*api.One + 1}} {
				a := api.Affine{T: move}
				a.M[element] = x.value
				want := x.want
				switch {
				case move.Y != 0:
					want = api.ErrArg
				case move.X != 0 && want == api.OK:
					want = api.ErrGrid
				}
				n++
				expect(t, b.put(api.Inst{Mesh: 10, Material: 5, N: n, T: a}), want, element, x.value, move)
			}
		}
	}
}

// TestPutUsesItsOwnMesh puts two meshes, of which one is far greater, with transforms
// that only the other one stands.
func TestPutUsesItsOwnMesh(t *testing.T) {
	b := start(t)
	expect(t, b.load(1, about(1, 1), spike(3, 2, api.Point{X: 4096})), api.OK, "great")
	expect(t, b.load(2, about(1, 1), spike(3, 2, api.Point{X: 1})), api.OK, "small")
	expect(t, b.load(3, about(3, 1), good(3, 1)), api.OK, "material")
	expect(t, b.load(4, about(2, 1), good(2, 1)), api.OK, "texture")
	for n, a := range []api.Affine{affine.Size(17 * api.One), affine.Size(-256 * api.One), moved(65535), moved(61441)} {
		expect(t, b.put(api.Inst{Mesh: 1, Material: 3, Texture: 4, N: n, T: a}), api.ErrGrid, "great", a)
		expect(t, b.put(api.Inst{Mesh: 2, Material: 3, Texture: 4, N: n, T: a}), api.OK, "small", a)
	}
	for n, a := range []api.Affine{affine.Size(16 * api.One), affine.Size(-16 * api.One), moved(61440)} {
		expect(t, b.put(api.Inst{Mesh: 1, Material: 3, N: n, T: a}), api.OK, "great", a)
	}
}

// names returns instances with every name there may be with these components: some that
// scene has assets for, some that it has none for, some for which they are of a wrong kind,
// and numbers that may not be.
func names() []api.Inst {
	var all []api.Inst
	for _, mesh := range []int{10, 11, 5, 9} {
		for _, material := range []int{5, 6, 10, 9} {
			for _, texture := range []int{0, 7, 8, 5, -7, 9} {
				for _, n := range []int{-1, 65537, most, least, 0, 65536} {
					all = append(all, api.Inst{Mesh: mesh, Material: material, Texture: texture, N: n})
				}
			}
		}
	}
	return all
}

// nameError returns the error that Put tells of one of these names in scene, and OK if
// there is none.
func nameError(i api.Inst) api.Errno {
	switch {
	case i.N != 0 && i.N != 65536:
		return api.ErrArg
	case i.Mesh == 11 || i.Material == 6 || i.Texture == 8 || i.Texture == -7:
		return api.ErrNone
	case i.Mesh != 10 || i.Material != 5 || i.Texture == 5 || i.Texture == 9:
		return api.ErrKind
	}
	return api.OK
}

// TestPutOrder makes each fault that Put tells, and several of them at once: the first
// one that the chapter names is told.
func TestPutOrder(t *testing.T) {
	good, off, refused := transforms()
	b := scene(t)
	check := func(i api.Inst, want api.Errno, transforms []api.Affine) {
		if b.model.find(i) >= 0 {
			want = api.ErrDup
		}
		if e := nameError(i); e != api.OK {
			want = e
		}
		for _, i.T = range transforms {
			expect(t, b.put(i), want, i)
			if want == api.OK {
				expect(t, b.take(i), api.OK, i)
			}
		}
	}
	for _, i := range names() {
		for range 2 {
			check(i, api.OK, good)
			check(i, api.ErrGrid, off)
			check(i, api.ErrArg, refused)
			// It is there in the second round.
			b.put(api.Inst{Mesh: i.Mesh, Material: i.Material, Texture: i.Texture, N: i.N, T: affine.Same()})
		}
		b.take(i)
	}
	if n := len(b.table.Insts()); n != 0 {
		t.Errorf("%d instances are left", n)
	}
}

// TestTake takes instances by their names, with other transforms than they were put with.
func TestTake(t *testing.T) {
	good, off, refused := transforms()
	all := append(slices.Concat(good, off, refused), api.Affine{M: [9]api.Fix{most, least}})
	for _, a := range all {
		b := full(t, 0, 1, 65536)
		for _, i := range shuffled(draws(), b.table.Insts()) {
			there := i
			i.T = a
			want := slices.DeleteFunc(b.table.Insts(), func(x api.Inst) bool { return x == there })
			expect(t, b.take(i), api.OK, i)
			if got := b.table.Insts(); !slices.Equal(got, want) {
				t.Errorf("behind Take(%v) there are %v, want %v", i, got, want)
			}
			expect(t, b.take(i), api.ErrNone, i)
			expect(t, b.take(there), api.ErrNone, there)
		}
		if got := b.table.Insts(); len(got) != 0 {
			t.Errorf("there are still %v", got)
		}
		if n := len(b.table.Rows()); n != 7 {
			t.Errorf("%d rows, want 7", n)
		}
	}
}

// TestTakeOfNone takes what never was: each component of a name that is there changed
// alone, and no names at all.
func TestTakeOfNone(t *testing.T) {
	b := scene(t)
	i := api.Inst{Mesh: 10, Material: 5, Texture: 7, N: 3, T: affine.Same()}
	none := api.Inst{Mesh: 10, Material: 5, N: 3, T: affine.Same()}
	expect(t, b.take(i), api.ErrNone, "never put")
	expect(t, b.put(i), api.OK, i)
	expect(t, b.take(none), api.ErrNone, none)
	for _, change := range []func(i *api.Inst, n int){
		func(i *api.Inst, n int) { i.Mesh = n },
		func(i *api.Inst, n int) { i.Material = n },
		func(i *api.Inst, n int) { i.Texture = n },
		func(i *api.Inst, n int) { i.N = n },
	} {
		for _, n := range []int{0, 1, 20, 30, 40, 9, -1, 65536, 65537, least, most, 10 + 1<<32, 5 + 1<<32, 7 + 1<<32, 3 + 1<<32} {
			other := i
			change(&other, n)
			expect(t, b.take(other), api.ErrNone, other)
		}
	}
	expect(t, b.take(api.Inst{}), api.ErrNone, "zero")
	expect(t, b.take(i), api.OK, i)
	expect(t, b.take(i), api.ErrNone, "twice")
	expect(t, b.put(i), api.OK, "again")
	expect(t, b.take(i), api.OK, "again")
}

// TestTakeOfUnloaded takes an instance of which one asset was unloaded, and behind that
// loaded again.
func TestTakeOfUnloaded(t *testing.T) {
	i := api.Inst{Mesh: 10, Material: 5, Texture: 7, N: 3, T: affine.Same()}
	for handle, kind := range map[int]int{10: 1, 5: 3, 7: 2} {
		b := scene(t)
		expect(t, b.put(i), api.OK, handle)
		expect(t, b.unload(handle), api.OK, handle)
		expect(t, b.take(i), api.ErrNone, handle)
		expect(t, b.loadGood(handle, kind), api.OK, handle)
		expect(t, b.take(i), api.ErrNone, handle)
		expect(t, b.put(i), api.OK, handle)
		expect(t, b.unload(9), api.OK, "the light")
		expect(t, b.take(i), api.OK, handle)
	}
}
