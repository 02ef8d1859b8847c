package project_test

import (
	"slices"
	"strconv"
	"testing"

	"umbra/affine"
	"umbra/api"
	"umbra/project"
	"umbra/table"
)

// twin is a table that was told everything, and for each layer one that was told nothing
// that names a handle of what is hidden from it.
type twin struct {
	t     *testing.T
	whole *table.Table
	parts [8]*table.Table
	// masks are those with which each handle is loaded, whenever that is.
	masks map[int][8]uint8
}

func newTwin(t *testing.T, masks map[int][8]uint8) *twin {
	w := &twin{t: t, whole: table.New(), masks: masks}
	for layer := range w.parts {
		w.parts[layer] = table.New()
	}
	return w
}

// call makes a call that names handles to the whole, and to those parts whose layers see
// all of them, where it has to lead to the same.
func (w *twin) call(handles []int, does func(x *table.Table) api.Errno) api.Errno {
	w.t.Helper()
	want := does(w.whole)
	for layer, x := range w.parts {
		if slices.ContainsFunc(handles, func(h int) bool { return w.masks[h][layer] == 0 }) {
			continue
		}
		expect(w.t, does(x), want, "of the part of layer", layer, "that names", handles)
	}
	return want
}

// check compares what each layer sees of the whole with what it sees of its part.
func (w *twin) check(what string) {
	w.t.Helper()
	for layer, x := range w.parts {
		got, want := scene(w.t, w.whole, layer), scene(w.t, x, layer)
		if !same(got, want) {
			w.t.Errorf("behind %s layer %d sees %+v, want %+v", what, layer, got, want)
		}
		if !slices.Equal(project.Encode(got), project.Encode(want)) {
			w.t.Errorf("behind %s the encodings of what layer %d sees differ", what, layer)
		}
	}
}

// twinMasks returns masks for each handle up to 24.
func twinMasks(draw func(int) int) map[int][8]uint8 {
	all := map[int][8]uint8{}
	for handle := 1; handle <= 24; handle++ {
		var masks [8]uint8
		for layer := range masks {
			masks[layer] = pick[uint8](draw, 0, 1, 2, 4, 8, 15)
		}
		all[handle] = masks
	}
	return all
}

// drawnInst returns an instance that names any handles, often those of the kinds that
// load mostly loads them with, or else one that is there.
func (w *twin) drawnInst(draw func(int) int) api.Inst {
	if insts := w.whole.Insts(); draw(3) == 0 && len(insts) > 0 {
		return pick(draw, insts...)
	}
	i := api.Inst{N: draw(2), T: moved(draw(50))}
	if draw(4) == 0 {
		i.Mesh, i.Material, i.Texture = 1+draw(24), 1+draw(24), draw(25)
	} else {
		i.Mesh, i.Material, i.Texture = 1+4*draw(6), 3+4*draw(6), pick(draw, 0, 2+4*draw(6))
	}
	return i
}

// names returns the handles that an instance names.
func names(i api.Inst) []int {
	l := []int{i.Mesh, i.Material}
	if i.Texture != 0 {
		l = append(l, i.Texture)
	}
	return l
}

// load loads a drawn handle.
func (w *twin) load(draw func(int) int) api.Errno {
	w.t.Helper()
	handle := 1 + draw(24)
	kind := 1 + (handle-1)%4
	if draw(8) == 0 {
		kind = 1 + draw(4)
	}
	m := api.Manifest{Id: uint64(draw(1 << 40)), Kind: kind, Label: uint32(draw(1 << 32)), Masks: w.masks[handle], From: uint32(draw(100)), To: uint32(50 + draw(100))}
	a := good(kind, draw(256))
	return w.call([]int{handle}, func(x *table.Table) api.Errno { return x.Load(handle, m, a) })
}

// step makes a drawn call, and returns what it was and what it told.
func (w *twin) step(draw func(int) int) string {
	w.t.Helper()
	handle, i := 1+draw(24), w.drawnInst(draw)
	switch n := draw(20); {
	case n < 7:
		return "Load " + w.load(draw).Error()
	case n < 8:
		return "Unload " + w.call([]int{handle}, func(x *table.Table) api.Errno { return x.Unload(handle) }).Error()
	case n < 18:
		return "Put " + w.call(names(i), func(x *table.Table) api.Errno { return x.Put(i) }).Error()
	}
	return "Take " + w.call(names(i), func(x *table.Table) api.Errno { return x.Take(i) }).Error()
}

// TestTwins makes long sequences of calls: what a layer sees does not hang on those that
// name what is hidden from it.
func TestTwins(t *testing.T) {
	draw, told, tris := draws(), map[string]int{}, 0
	for range 6 {
		w := newTwin(t, twinMasks(draw))
		for range 300 {
			what := w.step(draw)
			told[what]++
			w.check(what)
			tris = max(tris, len(scene(t, w.whole, 0).Tris))
		}
	}
	for _, what := range []string{"Load ok", "Load dup", "Unload ok", "Unload none", "Put ok", "Put none", "Put kind", "Put dup", "Take ok", "Take none"} {
		if told[what] < 5 {
			t.Errorf("%s is told %d times", what, told[what])
		}
	}
	if tris < 8 {
		t.Errorf("layer 0 sees at most %d triangles", tris)
	}
}

// visible returns a world of which layer 5 sees everything: two assets of each kind, under
// every tenth handle, and instances of them.
func visible() world {
	var w world
	for i := range 8 {
		w.rows = append(w.rows, row(10+10*i, 1+i%4, all(3)))
	}
	for n := range 2 {
		w.insts = append(w.insts,
			api.Inst{Mesh: 10, Material: 30, N: n, T: moved(n)},
			api.Inst{Mesh: 10, Material: 70, Texture: 60, N: n, T: moved(3 + n)},
			api.Inst{Mesh: 50, Material: 30, Texture: 20, N: n, T: moved(6 + n)},
		)
	}
	return w
}

// hidden returns rows that layer 5 does not see, of all kinds: two of them, at first + 1 and
// first + 2, behind each tenth handle; and instances that name them, alone or with what
// layer 5 sees.
func hidden(first int, number uint64, label, from, to uint32) ([]api.Row, []api.Inst) {
	var rows []api.Row
	var insts []api.Inst
	for i := range 10 {
		for kind := 1; kind <= 2; kind++ {
			r := row(10*i+first+kind, 1+(i+kind)%4, but(5, 15))
			r.M.Id, r.M.Label, r.M.From, r.M.To = number+uint64(i), label, from, to
			rows = append(rows, r)
		}
	}
	of := func(kind int) (handles []int) {
		for _, r := range rows {
			if r.A.Kind == kind {
				handles = append(handles, r.Handle)
			}
		}
		return handles
	}
	a := affine.Same()
	for n, mesh := range of(1) {
		insts = append(insts, api.Inst{Mesh: mesh, Material: 30, N: n, T: a}, api.Inst{Mesh: mesh, Material: of(3)[n%2], Texture: of(2)[n%2], T: a})
	}
	for n, material := range of(3) {
		insts = append(insts, api.Inst{Mesh: 10, Material: material, N: n, T: a}, api.Inst{Mesh: 50, Material: material, Texture: 60, N: n, T: a})
	}
	for n, texture := range of(2) {
		insts = append(insts, api.Inst{Mesh: 10, Material: 30, Texture: texture, N: n, T: a})
	}
	return rows, insts
}

// TestHidden lays other hidden rows and instances into a world, under other handles, in
// other orders, more or fewer of them, with other numbers: what layer 5 sees stays.
func TestHidden(t *testing.T) {
	w, draw := visible(), draws()
	want := scene(t, w.table(t), 5)
	if len(want.Tris) != 12 || len(want.Ids) != 8 {
		t.Fatalf("%+v", want)
	}
	bytes := project.Encode(want)
	for first := range 7 {
		for _, number := range []uint64{0, 5, 1 << 63} {
			for _, label := range []uint32{0, 1 << 30, last} {
				rows, insts := hidden(first, number, label, last-label, label/2)
				most := w.with(rows, insts...)
				for _, x := range []world{most, {slices.Concat(rows, w.rows), slices.Concat(insts, w.insts)}, {shuffled(draw, most.rows), shuffled(draw, most.insts)}, w.with(rows), w.with(rows[:5]), w.with(rows[15:])} {
					s := scene(t, x.table(t), 5)
					if !same(s, want) || !slices.Equal(project.Encode(s), bytes) {
						t.Fatalf("with %d rows from %d on there is %+v, want %+v", len(x.rows), first, s, want)
					}
				}
				if other := scene(t, most.table(t), 4); len(other.Tris) <= 12 || len(other.Ids) != 28 {
					t.Errorf("layer 4 sees %+v", other)
				}
			}
		}
	}
}

// TestHiddenSteps loads, puts, takes and unloads what layer 5 does not see, step by step.
func TestHiddenSteps(t *testing.T) {
	x := visible().table(t)
	want := project.Encode(scene(t, x, 5))
	look := func(what string, handle int) {
		t.Helper()
		if !slices.Equal(project.Encode(scene(t, x, 5)), want) {
			t.Errorf("behind %s of %d the scene is another one", what, handle)
		}
	}
	for first := range 7 {
		rows, insts := hidden(first, 3, 4, 5, 6)
		for _, r := range rows {
			expect(t, x.Load(r.Handle, r.M, r.A), api.OK, "Load", r.Handle)
			look("Load", r.Handle)
			expect(t, x.Load(r.Handle, r.M, r.A), api.ErrDup, "Load", r.Handle)
			look("a refused Load", r.Handle)
		}
		for n, i := range insts {
			expect(t, x.Put(i), api.OK, "Put", i)
			look("Put", i.Mesh)
			if n%3 == 0 {
				expect(t, x.Take(i), api.OK, "Take", i)
				look("Take", i.Mesh)
			}
		}
		for _, r := range rows {
			expect(t, x.Unload(r.Handle), api.OK, "Unload", r.Handle)
			look("Unload", r.Handle)
		}
	}
}

// TestHiddenKind loads hidden assets of each kind under one handle after the other.
func TestHiddenKind(t *testing.T) {
	w := visible()
	want := project.Encode(scene(t, w.table(t), 5))
	for handle := 1; handle < 100; handle++ {
		for kind := 1; handle%10 != 0 && kind <= 4; kind++ {
			x := w.with([]api.Row{row(handle, kind, but(5, 255))})
			if !slices.Equal(project.Encode(scene(t, x.table(t), 5)), want) {
				t.Errorf("a hidden asset of kind %d under %d changes the scene", kind, handle)
			}
		}
	}
}

// TestMasksOfOthers changes what the other layers see of what layer 5 sees, or what they
// do not.
func TestMasksOfOthers(t *testing.T) {
	rows, insts := hidden(3, 1, 2, 3, 4)
	w := visible().with(rows, insts...)
	want := project.Encode(scene(t, w.table(t), 5))
	for _, mask := range []uint8{0, 1, 2, 15, 255} {
		for i := range w.rows {
			kept := w.rows[i].M.Masks[5]
			w.rows[i].M.Masks = all(mask)
			w.rows[i].M.Masks[5] = kept
		}
		if !slices.Equal(project.Encode(scene(t, w.table(t), 5)), want) {
			t.Errorf("the mask %d for other layers changes the scene", mask)
		}
	}
}

// TestOtherFields changes those fields of what is seen which are no part of a scene.
func TestOtherFields(t *testing.T) {
	w := visible()
	want := project.Encode(scene(t, w.table(t), 5))
	for i := range w.rows {
		w.rows[i].M.Size, w.rows[i].M.Chunks = -i, 1<<40+i
	}
	if !slices.Equal(project.Encode(scene(t, w.table(t), 5)), want) {
		t.Error("sizes and chunks change the scene")
	}
	for i := range w.rows {
		if w.rows[i].A.Kind != 1 {
			w.rows[i].M.Masks[5] = 1 << i
		}
	}
	if !slices.Equal(project.Encode(scene(t, w.table(t), 5)), want) {
		t.Error("masks of what is no mesh change the scene")
	}
	// Other handles in the same order, and other numbers of instances in the same order.
	x := visible()
	for i := range x.rows {
		x.rows[i].Handle = 1000 + x.rows[i].Handle*x.rows[i].Handle
	}
	for i := range x.insts {
		n := &x.insts[i]
		n.Mesh, n.Material, n.N = 1000+n.Mesh*n.Mesh, 1000+n.Material*n.Material, 5+3*n.N
		if n.Texture != 0 {
			n.Texture = 1000 + n.Texture*n.Texture
		}
	}
	if !slices.Equal(project.Encode(scene(t, x.table(t), 5)), want) {
		t.Error("handles in the same order change the scene")
	}
}

// TestSeenCounts changes one thing that layer 5 sees: the encoding is another one each
// time.
func TestSeenCounts(t *testing.T) {
	encodings := map[string]string{}
	look := func(what string, change func(w *world)) {
		t.Helper()
		w := visible()
		change(&w)
		w.check(t, what)
		b := string(project.Encode(scene(t, w.table(t), 5)))
		if other, there := encodings[b]; there {
			t.Errorf("%s has the encoding of %s", what, other)
		}
		encodings[b] = what
	}
	look("as it is", func(w *world) {})
	look("no instance", func(w *world) { w.insts = nil })
	look("nothing", func(w *world) { *w = world{} })
	for i := range 8 {
		at := strconv.Itoa(i)
		look("the number of "+at, func(w *world) { w.rows[i].M.Id++ })
		look("the label of "+at, func(w *world) { w.rows[i].M.Label ^= 1 << 31 })
		look("the asset of "+at, func(w *world) { w.rows[i].A = good(1+i%4, 200+i) })
	}
	look("the mask of one mesh", func(w *world) { w.rows[0].M.Masks[5] = 15 })
	look("the mask of the other mesh", func(w *world) { w.rows[4].M.Masks[5] = 15 })
	look("the material 30 as 75", func(w *world) {
		w.rows[2].Handle = 75
		w.insts[0].Material, w.insts[2].Material, w.insts[3].Material, w.insts[5].Material = 75, 75, 75, 75
	})
	look("from", func(w *world) { w.rows[3].M.From = 100 })
	look("to", func(w *world) { w.rows[3].M.To = 101 })
	for i := range 6 {
		at := strconv.Itoa(i)
		look("the place of instance "+at, func(w *world) { w.insts[i].T = moved(20 + i) })
		look("no instance "+at, func(w *world) { w.insts = slices.Delete(w.insts, i, i+1) })
	}
	look("another texture", func(w *world) { w.insts[0].Texture = 20 })
	look("no texture", func(w *world) { w.insts[1].Texture = 0 })
	look("another material", func(w *world) { w.insts[2].Material = 70 })
}
