package project_test

import (
	"reflect"
	"slices"
	"testing"

	"umbra/api"
	"umbra/project"
	"umbra/table"
)

// whole returns a list with what is behind its end.
func whole[E any](l []E) []E { return l[:cap(l)] }

// spoil stores a number of another kind over each byte of a list, and behind its end.
func spoil(b []byte) {
	for i := range whole(b) {
		whole(b)[i] ^= 0x5a
	}
}

// spoilScene changes every number in a scene's lists, and what is behind their ends.
func spoilScene(s api.Scene) {
	for i := range whole(s.Texs) {
		texels := whole(whole(s.Texs)[i].Texels)
		for j := range texels {
			texels[j] = [3]int{-5, -5, -5}
		}
		whole(s.Texs)[i] = api.Texture{Side: -5}
	}
	for i := range whole(s.Tris) {
		whole(s.Tris)[i] = api.Tri{Mat: -5, Tex: -5, Obj: -5, Mask: 77}
	}
	for i := range whole(s.Mats) {
		whole(s.Mats)[i] = api.Material{Kind: -5}
	}
	for i := range whole(s.Lights) {
		whole(s.Lights)[i] = api.Light{Kind: -5}
	}
	for i := range whole(s.Ids) {
		whole(s.Ids)[i] = 555
	}
	for i := range whole(s.Labels) {
		whole(s.Labels)[i] = 555
	}
}

// hides tells whether there is anything but zeros behind the end of a list.
func hides[E any](l []E) bool {
	return slices.ContainsFunc(whole(l)[len(l):], func(e E) bool { return !reflect.ValueOf(e).IsZero() })
}

// held is a table, and what it held as it was made.
type held struct {
	t     *testing.T
	table *table.Table
	rows  []api.Row
	insts []api.Inst
}

func hold(t *testing.T, w world) held {
	t.Helper()
	x := w.table(t)
	return held{t, x, x.Rows(), x.Insts()}
}

// check looks whether the table holds what it held.
func (h held) check(what string) {
	h.t.Helper()
	if !reflect.DeepEqual(h.table.Rows(), h.rows) || !reflect.DeepEqual(h.table.Insts(), h.insts) {
		h.t.Errorf("%s: the table holds %+v and %+v, want %+v and %+v", what, h.table.Rows(), h.table.Insts(), h.rows, h.insts)
	}
}

// TestKeepsTable looks whether a table stays as it is, whatever is asked and whatever is
// done with what was told.
func TestKeepsTable(t *testing.T) {
	h := hold(t, visible())
	for _, layer := range append([]int{0, 1, 2, 3, 4, 5, 6, 7}, noLayers...) {
		s, _ := project.Project(h.table, layer)
		h.check("Project")
		spoilScene(s)
		h.check("changes of a scene")
	}
	s := scene(t, h.table, 5)
	if want := visible().scene(5); !same(s, want) {
		t.Errorf("%+v, want %+v", s, want)
	}
}

// TestScenesShareNothing changes one of several scenes: the others stay, and so does what
// is told afterwards.
func TestScenesShareNothing(t *testing.T) {
	w := visible()
	x := w.table(t)
	y := x.Copy()
	want := w.scene(5)
	for range 3 {
		a, b, c, d := scene(t, x, 5), scene(t, x, 5), scene(t, x, 4), scene(t, y, 5)
		bytes := project.Encode(a)
		spoilScene(a)
		for i, s := range []api.Scene{b, c, d, scene(t, x, 5), scene(t, y, 5)} {
			if !same(s, want) {
				t.Errorf("scene %d became %+v, want %+v", i, s, want)
			}
		}
		if !slices.Equal(bytes, modelEncode(want)) {
			t.Error("the encoding changes with the scene")
		}
	}
}

// TestSceneStays changes the table behind Project: what this told stays.
func TestSceneStays(t *testing.T) {
	w := visible()
	x := w.table(t)
	s, kept := scene(t, x, 5), w.scene(5)
	for _, i := range w.insts[:3] {
		expect(t, x.Take(i), api.OK, i)
		if !same(s, kept) {
			t.Errorf("behind Take the scene became %+v", s)
		}
	}
	for _, r := range w.rows {
		expect(t, x.Unload(r.Handle), api.OK, r.Handle)
		other := row(r.Handle, 2, all(1))
		other.A = good(2, 99)
		expect(t, x.Load(r.Handle, other.M, other.A), api.OK, r.Handle)
		if !same(s, kept) {
			t.Errorf("behind Load the scene became %+v", s)
		}
	}
	if len(scene(t, x, 5).Texs) != 8 {
		t.Error("the table is not another one")
	}
}

// TestLoadedLists changes the lists of what was loaded, before Project and behind it.
func TestLoadedLists(t *testing.T) {
	w, want := visible(), visible().scene(5)
	x := w.table(t)
	before := scene(t, x, 5)
	for i := range w.rows {
		a := w.rows[i].A
		for j := range a.Mesh.Verts {
			a.Mesh.Verts[j], a.Mesh.Uvs[j] = api.Point{X: 9}, [2]int{9, 9}
		}
		for j := range a.Mesh.Tris {
			a.Mesh.Tris[j] = [3]int{2, 1, 0}
		}
		for j := range a.Texture.Texels {
			a.Texture.Texels[j] = [3]int{9, 9, 9}
		}
		w.rows[i].M = api.Manifest{}
	}
	for i := range w.insts {
		w.insts[i] = api.Inst{}
	}
	if !same(before, want) {
		t.Errorf("what was told became %+v, want %+v", before, want)
	}
	if after := scene(t, x, 5); !same(after, want) {
		t.Errorf("there is %+v, want %+v", after, want)
	}
}

// TestTexturesShareNothing loads one texture under several handles, and changes it at one
// place of the scene.
func TestTexturesShareNothing(t *testing.T) {
	a := good(2, 1)
	x := table.New()
	for handle := 1; handle <= 3; handle++ {
		expect(t, x.Load(handle, row(handle, 2, all(1)).M, a), api.OK, handle)
	}
	s := scene(t, x, 0)
	for i := range whole(s.Texs[1].Texels) {
		whole(s.Texs[1].Texels)[i] = [3]int{-5, -5, -5}
	}
	for _, i := range []int{0, 2} {
		if !reflect.DeepEqual(s.Texs[i], good(2, 1).Texture) {
			t.Errorf("the texture %d became %v", i, s.Texs[i])
		}
	}
	if !reflect.DeepEqual(a, good(2, 1)) {
		t.Errorf("what was loaded became %v", a)
	}
	if again := scene(t, x, 0); !reflect.DeepEqual(again.Texs[1], good(2, 1).Texture) {
		t.Errorf("the next scene has %v", again.Texs[1])
	}
}

// TestNothingBehindLists looks behind the ends of a scene's lists, and appends to them.
func TestNothingBehindLists(t *testing.T) {
	rows, insts := hidden(3, 1, 2, 3, 4)
	w := visible().with(rows, insts...)
	h := hold(t, w)
	want := w.scene(5)
	s := scene(t, h.table, 5)
	if hides(s.Tris) || hides(s.Mats) || hides(s.Texs) || hides(s.Lights) || hides(s.Ids) || hides(s.Labels) {
		t.Errorf("there is something behind the lists of %+v", s)
	}
	for i := range s.Texs {
		if hides(s.Texs[i].Texels) {
			t.Errorf("there is something behind the texels of %+v", s.Texs[i])
		}
		_ = append(s.Texs[i].Texels, [3]int{9, 9, 9}, [3]int{9, 9, 9})
	}
	_ = append(s.Tris, api.Tri{Mat: 9})
	_ = append(s.Mats, api.Material{Kind: 9})
	_ = append(s.Texs, api.Texture{Side: 9})
	_ = append(s.Lights, api.Light{Kind: 9})
	_ = append(s.Ids, 9)
	_ = append(s.Labels, 9)
	if !same(s, want) {
		t.Errorf("the scene became %+v, want %+v", s, want)
	}
	h.check("appending to a scene")
}

// TestAgain asks many times: nothing hangs on the order in which a map is gone through.
func TestAgain(t *testing.T) {
	rows, insts := hidden(2, 1, 2, 3, 4)
	w := visible().with(rows, insts...)
	x := w.table(t)
	for layer := range 8 {
		want := modelEncode(w.scene(layer))
		for range 50 {
			if !slices.Equal(project.Encode(scene(t, x, layer)), want) {
				t.Fatalf("layer %d sees another scene", layer)
			}
		}
	}
}
