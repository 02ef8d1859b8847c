package table_test

import (
	"slices"
	"strconv"
	"testing"

	"umbra/affine"
	"umbra/api"
	"umbra/table"
)

func TestNew(t *testing.T) {
	x, y := table.New(), table.New()
	if x == nil || y == nil || x == y {
		t.Fatal("New")
	}
	if len(x.Rows()) != 0 || len(x.Insts()) != 0 {
		t.Error(x.Rows(), x.Insts())
	}
	expect(t, x.Load(1, about(3, 1), good(3, 1)), api.OK, "Load")
	if len(x.Rows()) != 1 || len(y.Rows()) != 0 {
		t.Error(x.Rows(), y.Rows())
	}
	expect(t, y.Load(1, about(1, 1), good(1, 1)), api.OK, "Load of another table")
}

// TestRowsInOrder loads handles in each order. As texts, or as numbers of fewer bits,
// they would stand in other orders.
func TestRowsInOrder(t *testing.T) {
	for _, order := range orders([]int{1, 2, 10, 256, 32768, 65536}) {
		b := start(t)
		for _, handle := range order {
			expect(t, b.loadGood(handle, 1+handle%4), api.OK, order)
		}
		var handles []int
		for _, r := range b.table.Rows() {
			handles = append(handles, r.Handle)
			if i := r.Handle % 200; r.M != about(1+r.Handle%4, i) || !same(r.A, good(1+r.Handle%4, i)) {
				t.Errorf("under %d there is %v", r.Handle, r)
			}
		}
		if !slices.Equal(handles, []int{1, 2, 10, 256, 32768, 65536}) {
			t.Errorf("the handles are %v", handles)
		}
	}
}

// wide loads assets of each kind under small and great handles, none of them in the
// order of its kind.
func wide(t *testing.T) *both {
	t.Helper()
	b := start(t)
	for _, x := range []struct{ handle, kind int }{
		{2, 1}, {10, 1}, {300, 1}, {65535, 1}, {1, 3}, {9, 3}, {256, 3}, {65536, 3}, {3, 2}, {11, 2}, {255, 2}, {40000, 2},
	} {
		expect(t, b.loadGood(x.handle, x.kind), api.OK, x)
	}
	return b
}

// TestInstsInOrder puts names that differ in one component alone, in each order.
func TestInstsInOrder(t *testing.T) {
	first := wide(t)
	for at, numbers := range [][]int{{2, 10, 300, 65535}, {1, 9, 256, 65536}, {0, 3, 11, 255, 40000}, {0, 1, 2, 10, 256, 65536}} {
		var want []api.Inst
		for i, n := range numbers {
			name := []int{10, 9, 11, 7}
			name[at] = n
			want = append(want, api.Inst{Mesh: name[0], Material: name[1], Texture: name[2], N: name[3], T: moved(100 - i)})
		}
		for _, order := range orders(want) {
			x := first.table.Copy()
			for _, i := range order {
				expect(t, x.Put(i), api.OK, i)
			}
			if got := x.Insts(); !slices.Equal(got, want) {
				t.Errorf("of %v there are %v, want %v", order, got, want)
			}
		}
	}
}

// TestInstsByComponent puts all names of a few components, in drawn orders: an earlier
// component counts before all later ones.
func TestInstsByComponent(t *testing.T) {
	var want []api.Inst
	for _, mesh := range []int{2, 10, 65535} {
		for _, material := range []int{1, 9, 65536} {
			for _, texture := range []int{0, 3, 11, 40000} {
				for _, n := range []int{0, 9, 10, 65536} {
					want = append(want, api.Inst{Mesh: mesh, Material: material, Texture: texture, N: n, T: moved(len(want))})
				}
			}
		}
	}
	first, draw := wide(t), draws()
	for range 50 {
		x := first.table.Copy()
		for _, i := range shuffled(draw, want) {
			expect(t, x.Put(i), api.OK, i)
		}
		if got := x.Insts(); !slices.Equal(got, want) {
			t.Fatalf("there are %v, want %v", got, want)
		}
	}
}

// TestManyInsts puts every number there may be, and unloads what they all need.
func TestManyInsts(t *testing.T) {
	x := table.New()
	expect(t, x.Load(1, about(1, 0), good(1, 0)), api.OK, "mesh")
	expect(t, x.Load(2, about(3, 0), good(3, 0)), api.OK, "material")
	expect(t, x.Load(3, about(3, 0), good(3, 0)), api.OK, "material")
	for i := range 65537 {
		n := i * 10007 % 65537
		expect(t, x.Put(api.Inst{Mesh: 1, Material: 2 + n%2, N: n, T: moved(n % 1000)}), api.OK, n)
	}
	insts := x.Insts()
	if len(insts) != 65537 {
		t.Fatalf("%d instances", len(insts))
	}
	for i, inst := range insts {
		n := 2 * i
		if i > 32768 {
			n = 2*(i-32769) + 1
		}
		if inst != (api.Inst{Mesh: 1, Material: 2 + n%2, N: n, T: moved(n % 1000)}) {
			t.Fatalf("instance %d is %v", i, inst)
		}
	}
	expect(t, x.Unload(2), api.OK, "material")
	if got := x.Insts(); !slices.Equal(got, insts[32769:]) {
		t.Errorf("%d instances, want 32768", len(got))
	}
	expect(t, x.Unload(1), api.OK, "mesh")
	if got := x.Insts(); len(got) != 0 {
		t.Errorf("%d instances, want none", len(got))
	}
}

// pick draws one element of a list.
func pick[E any](draw func(int) int, l ...E) E { return l[draw(len(l))] }

// drawnHandle returns one of three handles of a kind, or seldom any other one.
func drawnHandle(draw func(int) int, kind int) int {
	if draw(12) == 0 {
		return pick(draw, -1, 0, 65536, 65537, least, most, 13, 1<<32+kind, 1+draw(12))
	}
	return kind + 4*draw(3)
}

// drawnTransform returns one that most meshes stand, or one at the edge, or one that
// none of them stands.
func drawnTransform(draw func(int) int) api.Affine {
	var a api.Affine
	for i := range a.M {
		a.M[i] = api.Fix(draw(1<<34)) - 2*api.One
	}
	return pick(draw, affine.Same(), moved(draw(100)), moved(65430+draw(20)), affine.Size(api.Fix(draw(1<<42))), moved(1<<18), a)
}

// drawnInst returns an instance with a drawn name and transform, often with a name that
// is there.
func (b *both) drawnInst(draw func(int) int) api.Inst {
	i := api.Inst{Mesh: drawnHandle(draw, 1), Material: drawnHandle(draw, 3), Texture: pick(draw, 0, drawnHandle(draw, 2))}
	i.N = pick(draw, 0, 1, 2, 65536, draw(4), draw(4), draw(65539)-1)
	if draw(3) == 0 && len(b.model.insts) > 0 {
		i = pick(draw, b.model.insts...)
	}
	i.T = drawnTransform(draw)
	return i
}

// drawnLoad loads a drawn handle with an asset of its kind, or seldom with another one,
// or with a fault.
func (b *both) drawnLoad(draw func(int) int) api.Errno {
	b.t.Helper()
	kind := 1 + draw(4)
	told, a := kind, good(kind, draw(256))
	if draw(10) == 0 {
		told = draw(6)
	}
	if draw(6) == 0 {
		a = pick(draw, faults()...).a
	}
	return b.load(drawnHandle(draw, kind), about(told, draw(256)), a)
}

// step makes a drawn call, and returns what it was and what it told.
func (b *both) step(draw func(int) int) string {
	b.t.Helper()
	switch n := draw(40); {
	case n < 10:
		return "Load " + b.drawnLoad(draw).Error()
	case n < 11:
		return "Unload " + b.unload(drawnHandle(draw, 1+draw(4))).Error()
	case n < 36:
		return "Put " + b.put(b.drawnInst(draw)).Error()
	}
	return "Take " + b.take(b.drawnInst(draw)).Error()
}

// TestSequences makes long sequences of calls, each of which is compared with the model
// and, if it tells an error, with the contents before.
func TestSequences(t *testing.T) {
	draw, told := draws(), map[string]int{}
	for range 20 {
		b := start(t)
		for range 1500 {
			told[b.step(draw)]++
		}
	}
	for _, x := range []string{
		"Load ok", "Load arg", "Load dup", "Load kind", "Load form", "Load grid", "Load long",
		"Unload ok", "Unload none",
		"Put ok", "Put arg", "Put none", "Put kind", "Put dup", "Put grid",
		"Take ok", "Take none",
	} {
		if told[x] < 5 {
			t.Errorf("%s is told %d times", x, told[x])
		}
	}
	if len(told) != 17 {
		t.Error(told)
	}
}

// TestCopies makes calls to several tables, which are copied from one another.
func TestCopies(t *testing.T) {
	draw := draws()
	all := make([]*both, 4)
	for i := range all {
		all[i] = start(t)
	}
	for i := range 6000 {
		at := draw(len(all))
		if draw(50) == 0 {
			all[at] = all[draw(len(all))].copy()
		}
		all[at].step(draw)
		for j, b := range all {
			b.check(strconv.Itoa(i) + " calls, the table " + strconv.Itoa(j))
		}
	}
}

func TestCopy(t *testing.T) {
	x := full(t, 0, 3).copy()
	y := x.copy()
	if x.table == y.table {
		t.Fatal("Copy returns the table itself")
	}
	rows, insts := x.table.Rows(), x.table.Insts()
	if !sameRows(y.table.Rows(), rows) || !slices.Equal(y.table.Insts(), insts) {
		t.Errorf("a copy has %v and %v, want %v and %v", y.table.Rows(), y.table.Insts(), rows, insts)
	}
	i := api.Inst{Mesh: 20, Material: 30, Texture: 7, N: 3, T: affine.Same()}
	j := api.Inst{Mesh: 20, Material: 30, Texture: 40, N: 77, T: affine.Same()}
	calls := []func(b *both) api.Errno{
		func(b *both) api.Errno { return b.loadGood(1, 1) },
		func(b *both) api.Errno { return b.put(j) },
		func(b *both) api.Errno { return b.take(i) },
		func(b *both) api.Errno { return b.unload(10) },
		func(b *both) api.Errno { return b.unload(5) },
		func(b *both) api.Errno { return b.loadGood(5, 4) },
		func(b *both) api.Errno { return b.unload(7) },
		func(b *both) api.Errno { return b.unload(9) },
	}
	for _, sides := range [][2]*both{{x.copy(), nil}, {nil, x.copy()}} {
		changed, other := sides[0], sides[1]
		if changed == nil {
			changed = other.copy() // the copy is changed, and what it was copied from stays
		} else {
			other = changed.copy()
		}
		for n, call := range calls {
			expect(t, call(changed), api.OK, n)
			if !sameRows(other.table.Rows(), rows) || !slices.Equal(other.table.Insts(), insts) {
				t.Errorf("the call %d to another table leads to %v and %v", n, other.table.Rows(), other.table.Insts())
			}
		}
		for n, call := range calls {
			expect(t, call(other), api.OK, "other", n)
		}
	}
}

func TestCopyOfNothing(t *testing.T) {
	x := start(t)
	y := x.copy()
	if y.table == nil || y.table == x.table {
		t.Fatal("Copy")
	}
	y.check("Copy")
	expect(t, y.loadGood(1, 1), api.OK, "Load")
	expect(t, y.loadGood(2, 3), api.OK, "Load")
	expect(t, y.put(api.Inst{Mesh: 1, Material: 2}), api.OK, "Put")
	x.check("Load of a copy")
	z := y.copy().copy()
	z.check("two copies")
	expect(t, z.unload(1), api.OK, "Unload")
	y.check("Unload of a copy")
	expect(t, z.unload(2), api.OK, "Unload")
	z = z.copy()
	z.check("copy of a table of nothing any more")
	expect(t, z.loadGood(2, 2), api.OK, "Load")
}

// checkNone makes every call, with arguments that are good and such that are not, to a
// table that New did not make.
func checkNone(t *testing.T, what string, x *table.Table) {
	t.Helper()
	for range 2 {
		if len(x.Rows()) != 0 || len(x.Insts()) != 0 || x.Copy() != nil {
			t.Errorf("%s has %v, %v, %v", what, x.Rows(), x.Insts(), x.Copy())
		}
		for _, handle := range append([]int{1, 65536}, noHandles...) {
			for kind := 1; kind <= 4; kind++ {
				expect(t, x.Load(handle, about(kind, 1), good(kind, 1)), api.ErrNil, what, handle)
				expect(t, x.Load(handle, about(kind+1, 1), good(kind, 1)), api.ErrNil, what, handle)
			}
			for _, f := range faults() {
				expect(t, x.Load(handle, about(f.a.Kind, 1), f.a), api.ErrNil, what, handle, f.what)
			}
			expect(t, x.Unload(handle), api.ErrNil, what, handle)
			for _, n := range append([]int{0, 65536}, noNumbers...) {
				i := api.Inst{Mesh: handle, Material: 1, N: n, T: affine.Size(300 * api.One)}
				expect(t, x.Put(i), api.ErrNil, what, i)
				expect(t, x.Take(i), api.ErrNil, what, i)
			}
		}
		expect(t, x.Put(api.Inst{}), api.ErrNil, what)
		expect(t, x.Take(api.Inst{}), api.ErrNil, what)
	}
}

func TestNone(t *testing.T) {
	var none *table.Table
	checkNone(t, "nil", none)
	checkNone(t, "the copy of nil", none.Copy())
	checkNone(t, "a zero table", &table.Table{})
	var zero table.Table
	checkNone(t, "a zero variable", &zero)
	checkNone(t, "the copy of a zero variable", zero.Copy())
	x := full(t, 1).table
	*x = table.Table{}
	checkNone(t, "a table over which the zero value is stored", x)
}

// remake loads and puts what a table holds, each in a drawn order, in a new one.
func remake(t *testing.T, draw func(int) int, b *both) *table.Table {
	t.Helper()
	x := table.New()
	for _, r := range shuffled(draw, b.table.Rows()) {
		expect(t, x.Load(r.Handle, r.M, r.A), api.OK, r)
	}
	for _, i := range shuffled(draw, b.table.Insts()) {
		expect(t, x.Put(i), api.OK, i)
	}
	return x
}

// TestContents holds tables behind long sequences against new ones that were told
// nothing but what they hold.
func TestContents(t *testing.T) {
	draw, greatest := draws(), 0
	for range 20 {
		b := start(t)
		for range 400 {
			b.step(draw)
		}
		x := remake(t, draw, b)
		if !sameRows(x.Rows(), b.table.Rows()) || !slices.Equal(x.Insts(), b.table.Insts()) {
			t.Errorf("made again there are %v and %v, want %v and %v", x.Rows(), x.Insts(), b.table.Rows(), b.table.Insts())
		}
		greatest = max(greatest, len(x.Insts()))
		// Either goes on in the same way.
		c := &both{t, x, b.model}
		for range 100 {
			c.step(draw)
		}
	}
	if greatest < 20 {
		t.Errorf("there are at most %d instances", greatest)
	}
}

// TestEachOrder makes the same loads and puts in each order in which a put comes behind
// the loads of what it needs.
func TestEachOrder(t *testing.T) {
	loads := []api.Row{{Handle: 7}, {Handle: 10}, {Handle: 20}, {Handle: 30}}
	for i, kind := range []int{2, 1, 1, 3} {
		loads[i].M, loads[i].A = about(kind, i), good(kind, i)
	}
	puts := []api.Inst{
		{Mesh: 10, Material: 30, N: 3, T: moved(1)},
		{Mesh: 10, Material: 30, Texture: 7, N: 2, T: moved(2)},
		{Mesh: 20, Material: 30, Texture: 7, N: 1, T: moved(3)},
	}
	needs := [][]int{{1, 3}, {0, 1, 3}, {0, 2, 3}} // the places of their loads
	made := 0
	for _, order := range orders([]int{0, 1, 2, 3, 4, 5, 6}) {
		early := false
		for i, list := range needs {
			for _, need := range list {
				early = early || slices.Index(order, need) > slices.Index(order, len(loads)+i)
			}
		}
		if early {
			continue
		}
		made++
		x := table.New()
		for _, n := range order {
			if n < len(loads) {
				loadAmongOthers(t, x, loads[n])
			} else {
				putAmongOthers(t, x, puts[n-len(loads)])
			}
		}
		if got := x.Rows(); !sameRows(got, loads) {
			t.Errorf("in the order %v the rows are %v, want %v", order, got, loads)
		}
		if got := x.Insts(); !slices.Equal(got, puts) {
			t.Errorf("in the order %v the instances are %v, want %v", order, got, puts)
		}
	}
	if made != 214 {
		t.Errorf("%d orders, want 214", made)
	}
}

// loadAmongOthers loads a row, with calls before and behind it that leave nothing.
func loadAmongOthers(t *testing.T, x *table.Table, r api.Row) {
	t.Helper()
	expect(t, x.Load(r.Handle, about(4, 9), good(4, 9)), api.OK, r.Handle, "another one")
	expect(t, x.Unload(r.Handle), api.OK, r.Handle, "another one")
	expect(t, x.Load(r.Handle, r.M, r.A), api.OK, r.Handle)
	expect(t, x.Load(r.Handle, about(3, 9), good(3, 9)), api.ErrDup, r.Handle)
	expect(t, x.Load(8, about(4, 8), good(4, 8)), api.OK, "8")
	expect(t, x.Unload(8), api.OK, "8")
}

// putAmongOthers puts an instance, with calls before and behind it that leave nothing.
func putAmongOthers(t *testing.T, x *table.Table, i api.Inst) {
	t.Helper()
	other := i
	other.T = moved(99)
	expect(t, x.Put(other), api.OK, other, "another one")
	expect(t, x.Take(i), api.OK, other, "another one")
	expect(t, x.Put(i), api.OK, i)
	expect(t, x.Put(other), api.ErrDup, other)
	other.N = 99
	expect(t, x.Put(other), api.OK, other)
	expect(t, x.Take(other), api.OK, other)
	expect(t, x.Take(other), api.ErrNone, other)
}

// spare returns an asset of a kind whose lists have room behind their ends, also those of
// other kinds, and a function that tells whether what is in that room is as it was.
func spare(kind int) (api.Asset, func() bool) {
	a := good(kind, 1)
	const junk = 777
	verts := append(slices.Clone(a.Mesh.Verts), api.Point{X: junk}, api.Point{X: junk})
	uvs := append(slices.Clone(a.Mesh.Uvs), [2]int{junk}, [2]int{junk})
	tris := append(slices.Clone(a.Mesh.Tris), [3]int{junk}, [3]int{junk})
	texels := append(slices.Clone(a.Texture.Texels), [3]int{junk}, [3]int{junk})
	a.Mesh.Verts, a.Mesh.Uvs = verts[:len(verts)-2], uvs[:len(uvs)-2]
	a.Mesh.Tris, a.Texture.Texels = tris[:len(tris)-2], texels[:len(texels)-2]
	return a, func() bool {
		return slices.Equal(verts[len(verts)-2:], []api.Point{{X: junk}, {X: junk}}) &&
			slices.Equal(uvs[len(uvs)-2:], [][2]int{{junk}, {junk}}) &&
			slices.Equal(tris[len(tris)-2:], [][3]int{{junk}, {junk}}) &&
			slices.Equal(texels[len(texels)-2:], [][3]int{{junk}, {junk}})
	}
}

// whole returns a list with what is behind its end.
func whole[E any](l []E) []E { return l[:cap(l)] }

// spoil changes every number in an asset's lists, and what is behind their ends.
func spoil(a api.Asset) {
	for i := range whole(a.Mesh.Verts) {
		whole(a.Mesh.Verts)[i] = api.Point{X: 5000, Y: 5000, Z: 5000}
	}
	for i := range whole(a.Mesh.Uvs) {
		whole(a.Mesh.Uvs)[i] = [2]int{-5, -5}
	}
	for i := range whole(a.Mesh.Tris) {
		whole(a.Mesh.Tris)[i] = [3]int{-5, -5, -5}
	}
	for i := range whole(a.Texture.Texels) {
		whole(a.Texture.Texels)[i] = [3]int{-5, -5, -5}
	}
}

// hides tells whether there is nothing but zeros behind the ends of an asset's lists.
func hides(a api.Asset) bool {
	return !slices.ContainsFunc(whole(a.Mesh.Verts)[len(a.Mesh.Verts):], func(p api.Point) bool { return p != api.Point{} }) &&
		!slices.ContainsFunc(whole(a.Mesh.Uvs)[len(a.Mesh.Uvs):], func(uv [2]int) bool { return uv != [2]int{} }) &&
		!slices.ContainsFunc(whole(a.Mesh.Tris)[len(a.Mesh.Tris):], func(tri [3]int) bool { return tri != [3]int{} }) &&
		!slices.ContainsFunc(whole(a.Texture.Texels)[len(a.Texture.Texels):], func(texel [3]int) bool { return texel != [3]int{} })
}

// TestKeepsWhatWasLoaded changes what was handed to Load, in and behind its lists.
func TestKeepsWhatWasLoaded(t *testing.T) {
	for kind := 1; kind <= 4; kind++ {
		x := table.New()
		a, untouched := spare(kind)
		expect(t, x.Load(2, about(kind, 1), a), api.OK, kind)
		if !same(a, good(kind, 1)) || !untouched() {
			t.Errorf("Load changed the asset of kind %d", kind)
		}
		want := []api.Row{{Handle: 2, M: about(kind, 1), A: good(kind, 1)}}
		y := x.Copy()
		spoil(a)
		for _, table := range []*table.Table{x, y, x.Copy(), y.Copy()} {
			if got := table.Rows(); !sameRows(got, want) || !hides(got[0].A) {
				t.Errorf("the rows became %v, want %v", got, want)
			}
		}
	}
}

// TestKeepsWhatWasRefused changes nothing of an asset that Load refuses.
func TestKeepsWhatWasRefused(t *testing.T) {
	x := table.New()
	for kind := 1; kind <= 4; kind++ {
		a, untouched := spare(kind)
		expect(t, x.Load(0, about(kind, 1), a), api.ErrArg, kind)
		expect(t, x.Load(1, about(kind+1, 1), a), api.ErrKind, kind)
		if !same(a, good(kind, 1)) || !untouched() {
			t.Errorf("Load changed the asset of kind %d", kind)
		}
	}
}

// spoilAll changes everything in lists that Rows and Insts told.
func spoilAll(rows []api.Row, insts []api.Inst) {
	for i := range whole(rows) {
		spoil(whole(rows)[i].A)
		whole(rows)[i] = api.Row{Handle: -7}
	}
	for i := range whole(insts) {
		whole(insts)[i] = api.Inst{Mesh: -7}
	}
}

// TestKeepsWhatWasTold changes what Rows and Insts told: neither the table nor what was
// told before and what is told afterwards changes.
func TestKeepsWhatWasTold(t *testing.T) {
	b := full(t, 0, 3)
	rows, insts := b.table.Rows(), b.table.Insts()
	c := b.copy()
	for range 3 {
		spoilAll(b.table.Rows(), b.table.Insts())
		spoilAll(c.table.Rows(), c.table.Insts())
		b.check("changes of what was told")
		c.check("changes of what was told")
		if !sameRows(rows, b.model.rows) || !slices.Equal(insts, b.model.insts) {
			t.Errorf("what was told became %v and %v", rows, insts)
		}
	}
	expect(t, b.put(api.Inst{Mesh: 10, Material: 5, N: 8, T: moved(65436)}), api.OK, "the mesh as it was")
	expect(t, b.put(api.Inst{Mesh: 10, Material: 5, N: 9, T: moved(65437)}), api.ErrGrid, "the mesh as it was")
}

// TestToldStays makes calls behind Rows and Insts: what these told stays.
func TestToldStays(t *testing.T) {
	b := full(t, 0, 3)
	before := b.model.copy()
	rows, insts := b.table.Rows(), b.table.Insts()
	draw := draws()
	for range 300 {
		b.step(draw)
	}
	for _, r := range b.table.Rows() {
		expect(t, b.unload(r.Handle), api.OK, r)
	}
	if !sameRows(rows, before.rows) || !slices.Equal(insts, before.insts) {
		t.Errorf("what was told became %v and %v", rows, insts)
	}
}

// TestRowsShareNothing loads one asset under two handles, and changes it in one row of
// what is told.
func TestRowsShareNothing(t *testing.T) {
	for kind := 1; kind <= 4; kind++ {
		x := table.New()
		a := good(kind, 1)
		expect(t, x.Load(1, about(kind, 1), a), api.OK, kind)
		expect(t, x.Load(2, about(kind, 1), a), api.OK, kind)
		rows := x.Rows()
		spoil(rows[0].A)
		if !same(rows[1].A, a) || !same(a, good(kind, 1)) {
			t.Errorf("the other row is %v, and what was loaded %v", rows[1], a)
		}
		expect(t, x.Load(3, rows[1].M, rows[1].A), api.OK, "what was told")
		spoil(rows[1].A)
		for i, r := range x.Rows() {
			if r.Handle != i+1 || !same(r.A, good(kind, 1)) {
				t.Errorf("the row %d is %v", i, r)
			}
		}
	}
}

// TestAppendToRows appends to the lists of what was told, which must not reach what is
// behind the lists that were loaded.
func TestAppendToRows(t *testing.T) {
	x := table.New()
	var untouched []func() bool
	for kind := 1; kind <= 4; kind++ {
		a, u := spare(kind)
		expect(t, x.Load(kind, about(kind, 1), a), api.OK, kind)
		untouched = append(untouched, u)
	}
	for _, r := range x.Rows() {
		_ = append(r.A.Mesh.Verts, api.Point{X: 1})
		_ = append(r.A.Mesh.Uvs, [2]int{1})
		_ = append(r.A.Mesh.Tris, [3]int{1})
		_ = append(r.A.Texture.Texels, [3]int{1})
	}
	for kind, u := range untouched {
		if !u() {
			t.Errorf("what is behind the lists of kind %d changed", kind+1)
		}
	}
	for _, r := range x.Rows() {
		if !same(r.A, good(r.Handle, 1)) {
			t.Errorf("the row became %v", r)
		}
	}
}

// TestPutStays changes an instance behind Put and Take.
func TestPutStays(t *testing.T) {
	x := scene(t).table
	i := api.Inst{Mesh: 10, Material: 5, Texture: 7, N: 2, T: moved(3)}
	kept := i
	expect(t, x.Put(i), api.OK, i)
	i.N, i.Mesh, i.T.M[4], i.T.T.X = 9, 20, 7, 8
	if got := x.Insts(); !slices.Equal(got, []api.Inst{kept}) {
		t.Errorf("there are %v, want %v", got, kept)
	}
	expect(t, x.Put(i), api.OK, i)
	expect(t, x.Take(i), api.OK, i)
	if got := x.Insts(); !slices.Equal(got, []api.Inst{kept}) {
		t.Errorf("there are %v, want %v", got, kept)
	}
}
