package mesh_test

import (
	"bytes"
	"encoding/binary"
	"math"
	"reflect"
	"slices"
	"testing"

	"umbra/api"
	"umbra/mesh"
)

const (
	least = math.MinInt
	most  = math.MaxInt
)

// draws returns a function that draws numbers, the same ones in every run, of all
// sizes and of both signs.
func draws() func() uint64 {
	state := uint64(0x9e3779b97f4a7c15)
	next := func() uint64 {
		state ^= state << 13
		state ^= state >> 7
		state ^= state << 17
		return state
	}
	return func() uint64 { return uint64(int64(next()) >> (next() % 64)) }
}

// The model asks for one fault after the other, number by number.
func modelCheck(m api.Mesh) api.Errno {
	if len(m.Verts) >= 65 {
		return api.ErrLong
	}
	if len(m.Tris) >= 65 {
		return api.ErrLong
	}
	if len(m.Verts)*len(m.Tris) == 0 || len(m.Verts) != len(m.Uvs) {
		return api.ErrForm
	}
	for _, v := range m.Verts {
		for _, x := range coords(v) {
			if !(-4096 <= x && x <= 4096) {
				return api.ErrGrid
			}
		}
	}
	for _, pair := range m.Uvs {
		for _, x := range pair {
			if int(uint16(x)) != x {
				return api.ErrForm
			}
		}
	}
	for _, t := range m.Tris {
		known := map[int]bool{}
		for _, corner := range t {
			if !(0 <= corner && corner <= len(m.Verts)-1) || known[corner] {
				return api.ErrForm
			}
			known[corner] = true
		}
	}
	return api.OK
}

func coords(p api.Point) [3]int { return [3]int{p.X, p.Y, p.Z} }

// layout returns the bytes of m, each number at its place, cut to its width.
func layout(m api.Mesh) []byte {
	v, t := len(m.Verts), len(m.Tris)
	b := make([]byte, 2+6*v+4*v+3*t)
	b[0], b[1] = byte(v), byte(t)
	for i, p := range m.Verts {
		for axis, x := range coords(p) {
			binary.LittleEndian.PutUint16(b[2+6*i+2*axis:], uint16(x))
		}
	}
	for i, pair := range m.Uvs {
		for j, x := range pair {
			binary.LittleEndian.PutUint16(b[2+6*v+4*i+2*j:], uint16(x))
		}
	}
	for i, corners := range m.Tris {
		for j, corner := range corners {
			b[2+10*v+3*i+j] = byte(corner)
		}
	}
	return b
}

// modelDecode returns what Decode promises.
func modelDecode(b []byte) (api.Mesh, api.Errno) {
	if len(b) < 2 {
		return api.Mesh{}, api.ErrShort
	}
	v, t := int(b[0]), int(b[1])
	if len(b) < 2+10*v+3*t {
		return api.Mesh{}, api.ErrShort
	}
	if len(b) > 2+10*v+3*t {
		return api.Mesh{}, api.ErrForm
	}
	word := func(at int) uint16 { return binary.LittleEndian.Uint16(b[at:]) }
	signed := func(at int) int { return int(int16(word(at))) }
	m := api.Mesh{}
	for i := range v {
		at := 2 + 6*i
		m.Verts = append(m.Verts, api.Point{X: signed(at), Y: signed(at + 2), Z: signed(at + 4)})
		at = 2 + 6*v + 4*i
		m.Uvs = append(m.Uvs, [2]int{int(word(at)), int(word(at + 2))})
	}
	for i := range t {
		at := 2 + 10*v + 3*i
		m.Tris = append(m.Tris, [3]int{int(b[at]), int(b[at+1]), int(b[at+2])})
	}
	if e := modelCheck(m); e != api.OK {
		return api.Mesh{}, e
	}
	return m, api.OK
}

// modelBox goes over the axes, and sorts.
func modelBox(m api.Mesh) (lo, hi api.Point) {
	ends := func(axis int) (int, int) {
		all := []int{}
		for i, p := range m.Verts {
			if slices.ContainsFunc(m.Tris, func(t [3]int) bool { return slices.Contains(t[:], i) }) {
				all = append(all, coords(p)[axis])
			}
		}
		slices.Sort(all)
		return all[0], all[len(all)-1]
	}
	lo.X, hi.X = ends(0)
	lo.Y, hi.Y = ends(1)
	lo.Z, hi.Z = ends(2)
	return lo, hi
}

// same tells whether two meshes are equal; nil and empty lists are.
func same(a, b api.Mesh) bool {
	return slices.Equal(a.Verts, b.Verts) && slices.Equal(a.Uvs, b.Uvs) && slices.Equal(a.Tris, b.Tris)
}

// clone returns a copy that shares nothing.
func clone(m api.Mesh) api.Mesh {
	return api.Mesh{Verts: slices.Clone(m.Verts), Uvs: slices.Clone(m.Uvs), Tris: slices.Clone(m.Tris)}
}

// sized returns a mesh of so many vertices, Uvs and triangles. It has no fault if
// its counts have none and there are three vertices or more.
func sized(verts, uvs, tris int) api.Mesh {
	m := api.Mesh{}
	for i := range verts {
		m.Verts = append(m.Verts, api.Point{X: 40*i - 2000, Y: 1500 - 37*i, Z: 11*i + 5})
	}
	for i := range uvs {
		m.Uvs = append(m.Uvs, [2]int{900*i + 3, 60000 - 700*i})
	}
	for i := range tris {
		n := max(verts, 1)
		m.Tris = append(m.Tris, [3]int{i % n, (i + 1) % n, (i + 2) % n})
	}
	return m
}

// checkAll holds all calls for m against the model.
func checkAll(t *testing.T, m api.Mesh) {
	t.Helper()
	kept, want := clone(m), modelCheck(m)
	if got := mesh.Check(m); got != want {
		t.Errorf("Check(%v) = %v, want %v", m, got, want)
	}
	b, e := mesh.Encode(m)
	if e != want || want != api.OK && len(b) != 0 || want == api.OK && !bytes.Equal(b, layout(m)) {
		t.Errorf("Encode(%v) = %v, %v, want %v", m, b, e, want)
	}
	if want == api.OK {
		checkDecode(t, b)
	}
	checkBox(t, m, want)
	for _, tri := range []int{least, -1, 0, 1, len(m.Tris) / 2, len(m.Tris) - 1, len(m.Tris), most} {
		checkCorners(t, m, tri, want)
	}
	if !same(m, kept) {
		t.Errorf("%v became %v", kept, m)
	}
}

func checkBox(t *testing.T, m api.Mesh, want api.Errno) {
	t.Helper()
	var wantLo, wantHi api.Point
	if want == api.OK {
		wantLo, wantHi = modelBox(m)
	}
	if lo, hi, e := mesh.Box(m); e != want || lo != wantLo || hi != wantHi {
		t.Errorf("Box(%v) = %v, %v, %v, want %v, %v, %v", m, lo, hi, e, wantLo, wantHi, want)
	}
}

func checkCorners(t *testing.T, m api.Mesh, tri int, want api.Errno) {
	t.Helper()
	var wantP [3]api.Point
	var wantUv [3][2]int
	switch {
	case want != api.OK:
	case !(0 <= tri && tri <= len(m.Tris)-1):
		want = api.ErrArg
	default:
		a, b, c := m.Tris[tri][0], m.Tris[tri][1], m.Tris[tri][2]
		wantP = [3]api.Point{m.Verts[a], m.Verts[b], m.Verts[c]}
		wantUv = [3][2]int{m.Uvs[a], m.Uvs[b], m.Uvs[c]}
	}
	if p, uv, e := mesh.Corners(m, tri); e != want || p != wantP || uv != wantUv {
		t.Errorf("Corners(%v, %d) = %v, %v, %v, want %v, %v, %v", m, tri, p, uv, e, wantP, wantUv, want)
	}
}

// checkDecode holds Decode of b against the model, and Encode against b.
func checkDecode(t *testing.T, b []byte) {
	t.Helper()
	kept := slices.Clone(b)
	want, f := modelDecode(b)
	got, e := mesh.Decode(b)
	if e != f || !same(got, want) {
		t.Errorf("Decode(%v) = %v, %v, want %v, %v", b, got, e, want, f)
	}
	if e == api.OK {
		if again, e := mesh.Encode(got); e != api.OK || !bytes.Equal(again, b) {
			t.Errorf("%v comes back as %v, %v", b, again, e)
		}
	}
	if !bytes.Equal(b, kept) {
		t.Errorf("Decode changed %v to %v", kept, b)
	}
}

// expect holds Check, and the errors of the other calls, against want.
func expect(t *testing.T, what string, m api.Mesh, want api.Errno) {
	t.Helper()
	if got := mesh.Check(m); got != want {
		t.Errorf("%s: Check(%v) = %v, want %v", what, m, got, want)
	}
	if b, e := mesh.Encode(m); e != want || (len(b) == 0) != (want != api.OK) {
		t.Errorf("%s: Encode(%v) = %v, %v, want %v", what, m, b, e, want)
	}
	checkAll(t, m)
}

func TestCheckOfCounts(t *testing.T) {
	for _, x := range []struct {
		verts, uvs, tris int
		want             api.Errno
	}{
		{0, 0, 0, api.ErrForm}, {0, 0, 1, api.ErrForm}, {0, 1, 1, api.ErrForm}, {0, 0, 64, api.ErrForm},
		{0, 0, 65, api.ErrLong}, {0, 1, 65, api.ErrLong}, {0, 64, 64, api.ErrForm},
		{1, 1, 0, api.ErrForm}, {1, 0, 1, api.ErrForm}, {1, 1, 1, api.ErrForm}, {1, 1, 65, api.ErrLong},
		{2, 2, 1, api.ErrForm}, {2, 2, 64, api.ErrForm},
		{3, 3, 0, api.ErrForm}, {3, 3, 1, api.OK}, {3, 3, 2, api.OK}, {3, 3, 63, api.OK}, {3, 3, 64, api.OK},
		{3, 3, 65, api.ErrLong}, {3, 3, 66, api.ErrLong}, {3, 3, 256, api.ErrLong}, {3, 3, 257, api.ErrLong},
		{3, 0, 1, api.ErrForm}, {3, 2, 1, api.ErrForm}, {3, 4, 1, api.ErrForm}, {3, 259, 1, api.ErrForm},
		{63, 63, 64, api.OK}, {63, 64, 64, api.ErrForm},
		{64, 64, 0, api.ErrForm}, {64, 64, 1, api.OK}, {64, 64, 64, api.OK}, {64, 64, 65, api.ErrLong},
		{64, 0, 64, api.ErrForm}, {64, 63, 64, api.ErrForm}, {64, 65, 64, api.ErrForm}, {64, 1000, 64, api.ErrForm},
		{65, 65, 0, api.ErrLong}, {65, 65, 1, api.ErrLong}, {65, 65, 64, api.ErrLong}, {65, 65, 65, api.ErrLong},
		{65, 0, 0, api.ErrLong}, {65, 64, 1, api.ErrLong}, {65, 66, 1, api.ErrLong},
		{66, 66, 1, api.ErrLong}, {256, 256, 1, api.ErrLong}, {259, 259, 1, api.ErrLong}, {259, 3, 1, api.ErrLong}, {5000, 5000, 5000, api.ErrLong},
	} {
		expect(t, "counts", sized(x.verts, x.uvs, x.tris), x.want)
	}
	counts := []int{0, 1, 2, 3, 4, 63, 64, 65, 66, 255, 256}
	for _, verts := range counts {
		for _, tris := range counts {
			for _, uvs := range []int{0, verts - 1, verts, verts + 1, 2 * verts, 64, 65} {
				checkAll(t, sized(verts, max(uvs, 0), tris))
			}
		}
	}
	expect(t, "the zero mesh", api.Mesh{}, api.ErrForm)
	expect(t, "empty lists", api.Mesh{Verts: []api.Point{}, Uvs: [][2]int{}, Tris: [][3]int{}}, api.ErrForm)
}

// TestCheckOfFewVertices finds that one vertex, and two, are no fault of the counts:
// what is wrong with the numbers of the vertices is told first.
func TestCheckOfFewVertices(t *testing.T) {
	for verts := 1; verts <= 2; verts++ {
		for _, tris := range []int{1, 64} {
			m := sized(verts, verts, tris)
			expect(t, "few vertices", m, api.ErrForm)
			m.Verts[verts-1].Y = 4097
			expect(t, "few vertices, off the grid", m, api.ErrGrid)
			m.Tris = nil
			expect(t, "few vertices, off the grid, no triangle", m, api.ErrForm)
		}
	}
}

// places returns the first, a middle and the last index of n.
func places(n int) []int { return []int{0, n / 2, n - 1} }

// setCoord returns m with one coordinate of a vertex changed.
func setCoord(m api.Mesh, vert, axis, x int) api.Mesh {
	m = clone(m)
	c := coords(m.Verts[vert])
	c[axis] = x
	m.Verts[vert] = api.Point{X: c[0], Y: c[1], Z: c[2]}
	return m
}

func setUv(m api.Mesh, pair, i, x int) api.Mesh {
	m = clone(m)
	m.Uvs[pair][i] = x
	return m
}

func setCorner(m api.Mesh, tri, i, x int) api.Mesh {
	m = clone(m)
	m.Tris[tri][i] = x
	return m
}

func TestCheckOfCoordinates(t *testing.T) {
	values := []struct {
		x    int
		want api.Errno
	}{
		{-4096, api.OK}, {4096, api.OK}, {-4095, api.OK}, {4095, api.OK}, {0, api.OK}, {-1, api.OK}, {1, api.OK},
		{-4097, api.ErrGrid}, {4097, api.ErrGrid}, {-4098, api.ErrGrid}, {4098, api.ErrGrid},
		{8192, api.ErrGrid}, {-8192, api.ErrGrid}, {32767, api.ErrGrid}, {-32768, api.ErrGrid}, {65535, api.ErrGrid}, {65536, api.ErrGrid},
		{65537, api.ErrGrid}, {-65536, api.ErrGrid}, {-65537, api.ErrGrid}, {1 << 31, api.ErrGrid}, {-1 << 31, api.ErrGrid}, {1 << 32, api.ErrGrid}, {-1 << 32, api.ErrGrid},
		{least, api.ErrGrid}, {least + 1, api.ErrGrid}, {least + 4096, api.ErrGrid}, {most, api.ErrGrid}, {most - 4096, api.ErrGrid},
	}
	// Most vertices of the last two are no corners.
	for _, m := range []api.Mesh{sized(3, 3, 1), sized(7, 7, 64), sized(64, 64, 64), sized(9, 9, 1), sized(64, 64, 1)} {
		for _, vert := range places(len(m.Verts)) {
			for axis := range 3 {
				for _, v := range values {
					expect(t, "a coordinate", setCoord(m, vert, axis, v.x), v.want)
				}
			}
		}
	}
}

func TestCheckOfUvs(t *testing.T) {
	values := []struct {
		x    int
		want api.Errno
	}{
		{0, api.OK}, {1, api.OK}, {255, api.OK}, {256, api.OK}, {32767, api.OK}, {32768, api.OK}, {65534, api.OK}, {65535, api.OK},
		{-1, api.ErrForm}, {-2, api.ErrForm}, {-32768, api.ErrForm}, {-65535, api.ErrForm}, {-65536, api.ErrForm}, {65536, api.ErrForm}, {65537, api.ErrForm}, {131071, api.ErrForm},
		{1 << 31, api.ErrForm}, {1 << 32, api.ErrForm}, {1<<32 + 5, api.ErrForm}, {-1 << 32, api.ErrForm}, {-1<<32 + 5, api.ErrForm},
		{least, api.ErrForm}, {least + 1, api.ErrForm}, {most, api.ErrForm}, {most - 65535, api.ErrForm},
	}
	for _, m := range []api.Mesh{sized(3, 3, 1), sized(7, 7, 64), sized(64, 64, 64), sized(9, 9, 1), sized(64, 64, 1)} {
		for _, pair := range places(len(m.Uvs)) {
			for i := range 2 {
				for _, v := range values {
					expect(t, "a number of Uvs", setUv(m, pair, i, v.x), v.want)
				}
			}
		}
	}
}

func TestCheckOfCorners(t *testing.T) {
	for _, x := range []struct{ verts, tris int }{{6, 1}, {6, 5}, {63, 64}, {64, 64}} {
		m := sized(x.verts, x.verts, x.tris)
		for _, tri := range places(x.tris) {
			m.Tris[tri] = [3]int{1, 2, 3} // so that the first and the last vertex are free
			for i := range 3 {
				for _, corner := range []int{0, 4, x.verts - 2, x.verts - 1} {
					expect(t, "a vertex", setCorner(m, tri, i, corner), api.OK)
				}
				for _, corner := range []int{
					-1, -2, -x.verts, x.verts, x.verts + 1, 2 * x.verts, 64, 65, 128, 255, 256, 257, 1 << 16, 1 << 32, 1<<32 + 4, -1 << 32, -1<<32 + 4,
					-252, -256, least, least + 4, most, most - 1,
				} {
					expect(t, "no vertex", setCorner(m, tri, i, corner), api.ErrForm)
				}
			}
		}
	}
}

func TestCheckOfEqualCorners(t *testing.T) {
	for _, x := range []struct{ verts, tris int }{{3, 1}, {6, 5}, {64, 64}} {
		m := sized(x.verts, x.verts, x.tris)
		for _, tri := range places(x.tris) {
			for _, a := range places(x.verts) {
				for _, b := range places(x.verts) {
					for _, c := range places(x.verts) {
						n := clone(m)
						n.Tris[tri] = [3]int{a, b, c}
						want := api.OK
						if a == b || b == c || a == c {
							want = api.ErrForm
						}
						expect(t, "corners", n, want)
					}
				}
			}
		}
	}
	// Two triangles may have the same corners.
	m := sized(3, 3, 6)
	m.Tris = [][3]int{{0, 1, 2}, {0, 1, 2}, {1, 2, 0}, {2, 1, 0}, {0, 2, 1}, {0, 1, 2}}
	expect(t, "the same triangle again", m, api.OK)
	// And two vertices the same place and Uvs.
	m.Verts[1], m.Verts[2], m.Uvs[1], m.Uvs[2] = m.Verts[0], m.Verts[0], m.Uvs[0], m.Uvs[0]
	expect(t, "the same vertex again", m, api.OK)
}

// change makes a fault of a rank, which is its place in the chapter's order.
type change struct {
	what  string
	rank  int
	err   api.Errno
	apply func(m *api.Mesh)
}

// changes returns faults at the first, a middle and the last place. Each leaves
// those before it as they are.
func changes() []change {
	list := []change{
		{"65 vertices", 0, api.ErrLong, func(m *api.Mesh) { m.Verts = append(m.Verts, make([]api.Point, 65-len(m.Verts))...) }},
		{"65 vertices and Uvs", 0, api.ErrLong, func(m *api.Mesh) {
			m.Verts = append(m.Verts, make([]api.Point, 65-len(m.Verts))...)
			m.Uvs = append(m.Uvs, make([][2]int, 65-len(m.Uvs))...)
		}},
		{"65 triangles", 0, api.ErrLong, func(m *api.Mesh) {
			for len(m.Tris) < 65 {
				m.Tris = append(m.Tris, [3]int{0, 1, 2})
			}
		}},
		{"no Uvs", 1, api.ErrForm, func(m *api.Mesh) { m.Uvs = nil }},
		{"one of Uvs too few", 1, api.ErrForm, func(m *api.Mesh) { m.Uvs = m.Uvs[:max(len(m.Uvs)-1, 0)] }},
		{"one of Uvs too many", 1, api.ErrForm, func(m *api.Mesh) { m.Uvs = append(m.Uvs, [2]int{1, 2}) }},
		{"no triangles", 1, api.ErrForm, func(m *api.Mesh) { m.Tris = m.Tris[:0] }},
	}
	at := func(part, n int) int { return part * (n - 1) / 2 }
	for part := range 3 {
		for i := range 3 {
			for _, x := range []int{-4097, 4097, least, most} {
				list = append(list, change{"a coordinate", 2, api.ErrGrid, func(m *api.Mesh) { *m = setCoord(*m, at(part, len(m.Verts)), i, x) }})
			}
			for _, x := range []int{-1, 6, 64, least, most} {
				list = append(list, change{"a corner", 4, api.ErrForm, func(m *api.Mesh) { *m = setCorner(*m, at(part, len(m.Tris)), i, x) }})
			}
			list = append(list, change{"equal corners", 4, api.ErrForm, func(m *api.Mesh) {
				tri := at(part, len(m.Tris))
				*m = setCorner(*m, tri, i, m.Tris[tri][(i+1)%3])
			}})
		}
		for i := range 2 {
			for _, x := range []int{-1, 65536, least, most} {
				list = append(list, change{"a number of Uvs", 3, api.ErrForm, func(m *api.Mesh) { *m = setUv(*m, at(part, len(m.Uvs)), i, x) }})
			}
		}
	}
	return list
}

// TestCheckOfTwoFaults puts two faults, and then some, into one mesh.
func TestCheckOfTwoFaults(t *testing.T) {
	all := changes()
	for _, first := range all {
		for _, second := range all {
			if first.rank >= second.rank {
				continue
			}
			m := sized(6, 6, 5)
			second.apply(&m) // while all lists are as long as they were
			first.apply(&m)
			expect(t, second.what+" and "+first.what, m, first.err)
		}
	}
	draw := draws()
	for range 3000 {
		picked := slices.Clone(all)
		for i := range picked {
			j := i + int(draw()%uint64(len(picked)-i))
			picked[i], picked[j] = picked[j], picked[i]
		}
		picked = picked[:3+draw()%3]
		slices.SortStableFunc(picked, func(a, b change) int { return b.rank - a.rank })
		m := sized(6, 6, 5)
		for _, c := range picked {
			if c.rank > 1 || len(m.Uvs) > 0 && len(m.Verts) < 65 {
				c.apply(&m)
			}
		}
		checkAll(t, m)
	}
}

// TestCheckOfFaultsApart puts a fault into a vertex and another one into the Uvs of
// another vertex, or into a triangle: that of the vertex is told.
func TestCheckOfFaultsApart(t *testing.T) {
	for vert := range 6 {
		for other := range 6 {
			for i := range 2 {
				m := setUv(setCoord(sized(6, 6, 5), vert, vert%3, 4097), other, i, -1)
				expect(t, "a vertex and Uvs", m, api.ErrGrid)
			}
		}
		for tri := range 5 {
			for i := range 3 {
				m := setCorner(setCoord(sized(6, 6, 5), vert, vert%3, -4097), tri, i, 6)
				expect(t, "a vertex and a triangle", m, api.ErrGrid)
				for earlier := range tri {
					m := setCorner(setUv(m, vert, 0, 65536), earlier, i, 6)
					expect(t, "a vertex, its Uvs and two triangles", m, api.ErrGrid)
				}
			}
		}
	}
	m := sized(6, 6, 5)
	m.Verts[5].Z, m.Uvs = 4097, m.Uvs[:5]
	expect(t, "a vertex without Uvs", m, api.ErrForm)
	m = sized(64, 64, 65)
	m.Verts[0].X = 4097
	expect(t, "a vertex, and too many triangles", m, api.ErrLong)
	m = sized(65, 65, 1)
	m.Verts[64].X, m.Tris = 4097, nil
	expect(t, "too many vertices and no triangle", m, api.ErrLong)
}

// small returns a mesh whose coordinates and Uvs are all different, and its bytes.
func small() (api.Mesh, []byte) {
	return api.Mesh{
		Verts: []api.Point{{X: 0x0102, Y: -2, Z: 0x0304}, {X: -4096, Y: 0x0506, Z: 4096}, {X: 0x0708, Y: -0x0109, Z: 9}, {X: -1, Y: 12, Z: 0x0a0b}},
		Uvs:   [][2]int{{0, 65535}, {0x1112, 0x1314}, {0xf1f2, 0x8000}, {0x7fff, 14}},
		Tris:  [][3]int{{0, 3, 2}, {1, 2, 0}},
	}, []byte{
		4, 2,
		0x02, 0x01, 0xfe, 0xff, 0x04, 0x03,
		0x00, 0xf0, 0x06, 0x05, 0x00, 0x10,
		0x08, 0x07, 0xf7, 0xfe, 0x09, 0x00,
		0xff, 0xff, 0x0c, 0x00, 0x0b, 0x0a,
		0x00, 0x00, 0xff, 0xff,
		0x12, 0x11, 0x14, 0x13,
		0xf2, 0xf1, 0x00, 0x80,
		0xff, 0x7f, 0x0e, 0x00,
		0, 3, 2,
		1, 2, 0,
	}
}

// large is the greatest mesh. Its coordinates, and its Uvs, are all different, with the
// least and the greatest ones among them, and each vertex is a corner.
func large() api.Mesh {
	m := api.Mesh{}
	for i := range 64 {
		m.Verts = append(m.Verts, api.Point{X: -4096 + 42*i, Y: 4096 - 40*i, Z: 11*i - 700})
		m.Uvs = append(m.Uvs, [2]int{511 * i, 65535 - 509*i})
		m.Tris = append(m.Tris, [3]int{(i + 42) % 64, i, (i + 21) % 64})
	}
	return m
}

func TestNumbersAreDifferent(t *testing.T) {
	m := large()
	known := map[int]bool{}
	for _, p := range m.Verts {
		for _, x := range coords(p) {
			known[x] = true
		}
	}
	if len(known) != 3*64 || !known[-4096] || !known[4096] {
		t.Errorf("%d coordinates", len(known))
	}
	clear(known)
	for _, pair := range m.Uvs {
		known[pair[0]], known[pair[1]] = true, true
	}
	if len(known) != 2*64 || !known[0] || !known[65535] {
		t.Errorf("%d numbers of Uvs", len(known))
	}
	expect(t, "the greatest mesh", m, api.OK)
}

func TestEncode(t *testing.T) {
	m, want := small()
	got, e := mesh.Encode(m)
	if e != api.OK || !bytes.Equal(got, want) {
		t.Errorf("Encode(%v) = %v, %v, want %v", m, got, e, want)
	}
	back, e := mesh.Decode(want)
	if e != api.OK || !reflect.DeepEqual(back, m) {
		t.Errorf("Decode(%v) = %v, %v, want %v", want, back, e, m)
	}
	// The chapter's example.
	m = api.Mesh{Verts: []api.Point{{X: 1, Y: 2, Z: 3}, {X: 4, Y: 5, Z: 6}, {X: 7, Y: 8, Z: 9}}, Uvs: [][2]int{{10, 11}, {12, 13}, {14, 15}}, Tris: [][3]int{{2, 0, 1}}}
	want = []byte{3, 1, 1, 0, 2, 0, 3, 0, 4, 0, 5, 0, 6, 0, 7, 0, 8, 0, 9, 0, 10, 0, 11, 0, 12, 0, 13, 0, 14, 0, 15, 0, 2, 0, 1}
	got, e = mesh.Encode(m)
	if e != api.OK || len(got) != 35 || !bytes.Equal(got, want) {
		t.Errorf("Encode(%v) = %v, %v, want %v", m, got, e, want)
	}
	for _, x := range []struct{ verts, tris, want int }{{3, 1, 35}, {3, 64, 224}, {4, 2, 48}, {64, 1, 645}, {64, 64, 834}} {
		b, e := mesh.Encode(sized(x.verts, x.verts, x.tris))
		if e != api.OK || len(b) != x.want || int(b[0]) != x.verts || int(b[1]) != x.tris {
			t.Errorf("%d vertices, %d triangles: %d bytes, %v", x.verts, x.tris, len(b), e)
		}
	}
}

// TestWhereNumbersStand changes one number of a mesh and asks which bytes become
// different.
func TestWhereNumbersStand(t *testing.T) {
	for _, m := range []api.Mesh{sized(5, 5, 3), sized(64, 64, 64), large()} {
		v := len(m.Verts)
		first, e := mesh.Encode(m)
		if e != api.OK {
			t.Fatal(e)
		}
		check := func(what string, n api.Mesh, at int, want ...byte) {
			t.Helper()
			wanted := slices.Clone(first)
			copy(wanted[at:], want)
			if b, e := mesh.Encode(n); e != api.OK || !bytes.Equal(b, wanted) {
				t.Errorf("%s: Encode(%v) = %v, %v, want %v", what, n, b, e, wanted)
			}
			if back, e := mesh.Decode(wanted); e != api.OK || !same(back, n) {
				t.Errorf("%s: Decode(%v) = %v, %v, want %v", what, wanted, back, e, n)
			}
		}
		for vert := range v {
			for axis := range 3 {
				at := 2 + 6*vert + 2*axis
				check("the least coordinate", setCoord(m, vert, axis, -4096), at, 0x00, 0xf0)
				check("the greatest coordinate", setCoord(m, vert, axis, 4096), at, 0x00, 0x10)
				check("a coordinate below 0", setCoord(m, vert, axis, -258), at, 0xfe, 0xfe)
				check("a coordinate above 0", setCoord(m, vert, axis, 1027), at, 0x03, 0x04)
			}
			for i := range 2 {
				at := 2 + 6*v + 4*vert + 2*i
				check("the least of Uvs", setUv(m, vert, i, 0), at, 0, 0)
				check("the greatest of Uvs", setUv(m, vert, i, 65535), at, 255, 255)
				check("a number of Uvs", setUv(m, vert, i, 0x8a0b), at, 0x0b, 0x8a)
			}
		}
		for tri := range m.Tris {
			for i := range 3 {
				for _, corner := range []int{0, 1, v / 2, v - 1} {
					if !slices.Contains(m.Tris[tri][:], corner) {
						check("a corner", setCorner(m, tri, i, corner), 2+10*v+3*tri+i, byte(corner))
					}
				}
			}
		}
	}
}

// TestDecodeOfAnotherLength decodes each proper prefix of encodings, of meshes with
// and without a fault, and bytes behind them.
func TestDecodeOfAnotherLength(t *testing.T) {
	_, smallest := small()
	encodings := [][]byte{
		smallest, layout(large()), layout(sized(3, 3, 1)), layout(sized(64, 64, 1)), layout(sized(3, 3, 64)),
		layout(setCoord(sized(5, 5, 3), 0, 0, 4097)), layout(setCorner(sized(5, 5, 3), 0, 0, 5)), layout(sized(65, 65, 65)),
		layout(sized(3, 3, 0)), layout(sized(0, 0, 3)), {0, 0},
	}
	for _, b := range encodings {
		for length := range len(b) {
			got, e := mesh.Decode(b[:length])
			if e != api.ErrShort || !same(got, api.Mesh{}) {
				t.Errorf("Decode(%v) = %v, %v", b[:length], got, e)
			}
			checkDecode(t, b[:length:length])
		}
		for _, more := range []int{1, 2, 3, 4, 6, 10, 13, 35, 255, 256, 257, 65536} {
			for _, fill := range []byte{0, 1, 255} {
				got, e := mesh.Decode(slices.Concat(b, bytes.Repeat([]byte{fill}, more)))
				if e != api.ErrForm || !same(got, api.Mesh{}) {
					t.Errorf("Decode(%v and %d more) = %v, %v", b, more, got, e)
				}
			}
		}
		checkDecode(t, slices.Concat(b, b))
		checkDecode(t, b)
	}
	for _, b := range [][]byte{nil, {}, {0}, {1}, {3}, {64}, {65}, {255}, {0, 1}, {1, 0}, {3, 1}, {255, 255}} {
		if got, e := mesh.Decode(b); e != api.ErrShort || !same(got, api.Mesh{}) {
			t.Errorf("Decode(%v) = %v, %v", b, got, e)
		}
	}
	if got, e := mesh.Decode([]byte{0, 0}); e != api.ErrForm || !same(got, api.Mesh{}) {
		t.Errorf("Decode of two counts of 0 = %v, %v", got, e)
	}
}

// TestDecodeOfCounts decodes counts with too few bytes, just enough and too many.
func TestDecodeOfCounts(t *testing.T) {
	counts := []int{0, 1, 2, 3, 63, 64, 65, 66, 127, 128, 192, 254, 255}
	for _, verts := range counts {
		for _, tris := range counts {
			b := layout(sized(verts, verts, tris))
			want := api.OK
			switch {
			case verts > 64 || tris > 64:
				want = api.ErrLong
			case verts < 3 || tris == 0:
				want = api.ErrForm
			}
			for _, x := range []struct {
				length int
				want   api.Errno
			}{
				{2, api.ErrShort}, {2 + 6*verts, api.ErrShort}, {2 + 10*verts, api.ErrShort}, {len(b) - 1, api.ErrShort},
				{len(b), want}, {len(b) + 1, api.ErrForm}, {len(b) + 3, api.ErrForm}, {len(b) + 10, api.ErrForm}, {len(b) + 5000, api.ErrForm},
			} {
				if x.length < 2 || x.want == api.ErrShort && x.length == len(b) {
					continue
				}
				got, e := mesh.Decode(slices.Concat(b, make([]byte, 5000))[:x.length])
				if e != x.want || e != api.OK && !same(got, api.Mesh{}) || e == api.OK && !same(got, sized(verts, verts, tris)) {
					t.Errorf("%d vertices, %d triangles, %d bytes: %v, %v, want %v", verts, tris, x.length, got, e, x.want)
				}
			}
			// The bytes of nothing but zeros: all corners are equal.
			zeros := make([]byte, len(b))
			zeros[0], zeros[1] = byte(verts), byte(tris)
			checkDecode(t, zeros)
		}
	}
}

// TestDecodeOfFaults puts each fault into the bytes of a mesh without one: 5 vertices,
// 3 triangles.
func TestDecodeOfFaults(t *testing.T) {
	good := layout(sized(5, 5, 3))
	for _, x := range []struct {
		what  string
		at    int
		bytes []byte
		want  api.Errno
	}{
		{"no change", 0, []byte{5, 3}, api.OK},
		{"a vertex less", 0, []byte{4}, api.ErrForm},
		{"a vertex more", 0, []byte{6}, api.ErrShort},
		{"a triangle less", 1, []byte{2}, api.ErrForm},
		{"a triangle more", 1, []byte{4}, api.ErrShort},
		{"the first X at 4096", 2, []byte{0x00, 0x10}, api.OK},
		{"the first X at 4097", 2, []byte{0x01, 0x10}, api.ErrGrid},
		{"the first X at -4096", 2, []byte{0x00, 0xf0}, api.OK},
		{"the first X at -4097", 2, []byte{0xff, 0xef}, api.ErrGrid},
		{"the first Y at 32767", 4, []byte{0xff, 0x7f}, api.ErrGrid},
		{"the first Z at -32768", 6, []byte{0x00, 0x80}, api.ErrGrid},
		{"a middle Y at 4097", 16, []byte{0x01, 0x10}, api.ErrGrid},
		{"the last Z at 4096", 30, []byte{0x00, 0x10}, api.OK},
		{"the last Z at 4097", 30, []byte{0x01, 0x10}, api.ErrGrid},
		{"the last Z at -4097", 30, []byte{0xff, 0xef}, api.ErrGrid},
		{"the first of Uvs at 0", 32, []byte{0, 0}, api.OK},
		{"the first of Uvs at 65535", 32, []byte{255, 255}, api.OK},
		{"the last of Uvs at 65535", 50, []byte{255, 255}, api.OK},
		{"all Uvs at 65535", 32, bytes.Repeat([]byte{255}, 20), api.OK},
		{"the last vertex as a corner", 52, []byte{4}, api.OK},
		{"one beyond as a corner", 52, []byte{5}, api.ErrForm},
		{"255 as a corner", 53, []byte{255}, api.ErrForm},
		{"128 as the last corner", 60, []byte{128}, api.ErrForm},
		{"one beyond as the last corner", 60, []byte{5}, api.ErrForm},
		{"the first two corners equal", 52, []byte{1, 1, 2}, api.ErrForm},
		{"the last two corners equal", 58, []byte{1, 2, 2}, api.ErrForm},
		{"the outer corners equal", 55, []byte{4, 0, 4}, api.ErrForm},
		{"all corners equal", 52, []byte{0, 0, 0}, api.ErrForm},
	} {
		b := slices.Clone(good)
		copy(b[x.at:], x.bytes)
		got, e := mesh.Decode(b)
		if e != x.want || e != api.OK && !same(got, api.Mesh{}) || e == api.OK && !bytes.Equal(layout(got), b) {
			t.Errorf("%s: Decode(%v) = %v, %v, want %v", x.what, b, got, e, x.want)
		}
		checkDecode(t, b)
		// A fault of the numbers is told only of bytes that have the right length.
		for _, of := range [][]byte{b[:len(b)-1], append(b, 0)} {
			checkDecode(t, of)
			if _, e := mesh.Decode(of); e != api.ErrShort && e != api.ErrForm {
				t.Errorf("%s: Decode(%v): %v", x.what, of, e)
			}
		}
	}
	// Faults together: that of the vertices is told.
	b := slices.Clone(good)
	b[60], b[3] = 5, 0x40
	if _, e := mesh.Decode(b); e != api.ErrGrid {
		t.Errorf("Decode(%v): %v", b, e)
	}
}

// TestEachByte puts each value at each place of encodings.
func TestEachByte(t *testing.T) {
	_, smallest := small()
	for _, good := range [][]byte{smallest, layout(sized(3, 3, 1)), layout(large()), layout(sized(64, 64, 2))} {
		for at := range good {
			for value := range 256 {
				if len(good) > 100 && value%7 != 0 && value != 64 && value != 255 {
					continue
				}
				b := slices.Clone(good)
				b[at] = byte(value)
				checkDecode(t, b)
			}
		}
	}
}

func TestBox(t *testing.T) {
	at := func(x, y, z int) api.Point { return api.Point{X: x, Y: y, Z: z} }
	for _, x := range []struct {
		what   string
		verts  []api.Point
		tris   [][3]int
		lo, hi api.Point
	}{
		{"coordinates above 0", []api.Point{at(1, 20, 300), at(4, 10, 600), at(2, 50, 400)}, [][3]int{{0, 1, 2}}, at(1, 10, 300), at(4, 50, 600)},
		{"coordinates below 0", []api.Point{at(-1, -20, -300), at(-4, -10, -600), at(-2, -50, -400)}, [][3]int{{0, 1, 2}}, at(-4, -50, -600), at(-1, -10, -300)},
		{"coordinates of both signs", []api.Point{at(-1, 20, -300), at(4, -10, 600), at(-2, 50, 0)}, [][3]int{{2, 0, 1}}, at(-2, -10, -300), at(4, 50, 600)},
		{"one place", []api.Point{at(5, -6, 7), at(5, -6, 7), at(5, -6, 7)}, [][3]int{{0, 1, 2}}, at(5, -6, 7), at(5, -6, 7)},
		{"0", []api.Point{{}, {}, {}}, [][3]int{{2, 1, 0}}, at(0, 0, 0), at(0, 0, 0)},
		{"the whole grid", []api.Point{at(-4096, 4096, 0), at(4096, -4096, -4096), at(0, 0, 4096)}, [][3]int{{0, 1, 2}}, at(-4096, -4096, -4096), at(4096, 4096, 4096)},
		{"the first vertex is no corner", []api.Point{at(-4000, 4000, -4000), at(1, 2, 3), at(4, 5, 6), at(7, 8, 9)}, [][3]int{{1, 2, 3}}, at(1, 2, 3), at(7, 8, 9)},
		{"the first vertex is no corner, and 0", []api.Point{{}, at(1, 2, 3), at(4, 5, 6), at(7, 8, 9)}, [][3]int{{3, 2, 1}}, at(1, 2, 3), at(7, 8, 9)},
		{"the last vertex is no corner", []api.Point{at(1, 2, 3), at(4, 5, 6), at(7, 8, 9), at(4096, -4096, 4096)}, [][3]int{{0, 1, 2}}, at(1, 2, 3), at(7, 8, 9)},
		{"no corners on both sides", []api.Point{at(-9, -9, -9), at(1, 2, 3), at(9, 90, 900), at(4, 5, 6), at(7, 8, 9), at(-1, -1, -1)}, [][3]int{{1, 3, 4}, {4, 3, 1}}, at(1, 2, 3), at(7, 8, 9)},
		{"two triangles", []api.Point{at(1, 2, 3), at(4, 5, 6), at(7, 8, 9), at(-7, 80, 5), at(99, 99, 99)}, [][3]int{{0, 1, 2}, {0, 1, 3}}, at(-7, 2, 3), at(7, 80, 9)},
		{"the last corner is farthest out", []api.Point{at(1, 1, 1), at(2, 2, 2), at(3, 3, 3), at(-70, 70, -70)}, [][3]int{{0, 1, 2}, {2, 1, 0}, {1, 2, 3}}, at(-70, 1, -70), at(3, 70, 3)},
	} {
		m := api.Mesh{Verts: x.verts, Uvs: make([][2]int, len(x.verts)), Tris: x.tris}
		if lo, hi, e := mesh.Box(m); e != api.OK || lo != x.lo || hi != x.hi {
			t.Errorf("%s: Box(%v) = %v, %v, %v, want %v, %v", x.what, m, lo, hi, e, x.lo, x.hi)
		}
		checkAll(t, m)
	}
}

// TestBoxOfEachCorner puts one corner outside of all others, on each axis and side.
func TestBoxOfEachCorner(t *testing.T) {
	for _, m := range []api.Mesh{sized(3, 3, 1), sized(6, 6, 2), sized(64, 64, 64)} {
		for vert := range m.Verts {
			corner := slices.ContainsFunc(m.Tris, func(c [3]int) bool { return slices.Contains(c[:], vert) })
			for axis := range 3 {
				lo, hi, e := mesh.Box(setCoord(m, vert, axis, -4096))
				if e != api.OK || (coords(lo)[axis] == -4096) != corner || coords(hi)[axis] == -4096 {
					t.Errorf("vertex %d, axis %d: %v, %v, %v", vert, axis, lo, hi, e)
				}
				lo, hi, e = mesh.Box(setCoord(m, vert, axis, 4096))
				if e != api.OK || (coords(hi)[axis] == 4096) != corner || coords(lo)[axis] == 4096 {
					t.Errorf("vertex %d, axis %d: %v, %v, %v", vert, axis, lo, hi, e)
				}
				checkBox(t, setCoord(m, vert, axis, 4000), api.OK)
				checkBox(t, setCoord(m, vert, axis, -4000), api.OK)
			}
		}
	}
}

func TestCorners(t *testing.T) {
	m, _ := small()
	for _, x := range []struct {
		tri int
		p   [3]api.Point
		uv  [3][2]int
	}{
		{0, [3]api.Point{{X: 0x0102, Y: -2, Z: 0x0304}, {X: -1, Y: 12, Z: 0x0a0b}, {X: 0x0708, Y: -0x0109, Z: 9}}, [3][2]int{{0, 65535}, {0x7fff, 14}, {0xf1f2, 0x8000}}},
		{1, [3]api.Point{{X: -4096, Y: 0x0506, Z: 4096}, {X: 0x0708, Y: -0x0109, Z: 9}, {X: 0x0102, Y: -2, Z: 0x0304}}, [3][2]int{{0x1112, 0x1314}, {0xf1f2, 0x8000}, {0, 65535}}},
	} {
		if p, uv, e := mesh.Corners(m, x.tri); e != api.OK || p != x.p || uv != x.uv {
			t.Errorf("Corners(%v, %d) = %v, %v, %v, want %v, %v", m, x.tri, p, uv, e, x.p, x.uv)
		}
	}
	for _, m := range []api.Mesh{m, large(), sized(3, 3, 1), sized(64, 64, 2), sized(3, 3, 64)} {
		for tri := range m.Tris {
			checkCorners(t, m, tri, api.OK)
		}
		n := len(m.Tris)
		for _, tri := range []int{-1, -2, -n, n, n + 1, 64, 65, 256, 1 << 32, 1<<32 + 1, -1 << 32, -1<<32 + 1, least, least + 1, most, most - 1} {
			p, uv, e := mesh.Corners(m, tri)
			if e != api.ErrArg || p != [3]api.Point{} || uv != [3][2]int{} {
				t.Errorf("Corners(%v, %d) = %v, %v, %v", m, tri, p, uv, e)
			}
		}
	}
}

// TestBoxAndCornersOfFaults asks them of meshes with each fault: they tell Check's
// error, whichever triangle is asked for, and nothing else.
func TestBoxAndCornersOfFaults(t *testing.T) {
	for _, c := range changes() {
		m := sized(6, 6, 5)
		c.apply(&m)
		if lo, hi, e := mesh.Box(m); e != c.err || lo != (api.Point{}) || hi != (api.Point{}) {
			t.Errorf("%s: Box(%v) = %v, %v, %v", c.what, m, lo, hi, e)
		}
		for _, tri := range []int{least, -1, 0, 1, 2, 3, 4, 5, 64, 65, most} {
			p, uv, e := mesh.Corners(m, tri)
			if e != c.err || p != [3]api.Point{} || uv != [3][2]int{} {
				t.Errorf("%s: Corners(%v, %d) = %v, %v, %v", c.what, m, tri, p, uv, e)
			}
		}
	}
}

// drawn returns a mesh that has a fault seldom.
func drawn(draw func() uint64) api.Mesh {
	within := func(n int) int { return int(draw() % uint64(n)) }
	m := api.Mesh{}
	for range 3 + within(62) {
		m.Verts = append(m.Verts, api.Point{X: within(8193) - 4096, Y: within(8193) - 4096, Z: within(8193) - 4096})
		m.Uvs = append(m.Uvs, [2]int{within(65536), within(65536)})
	}
	n := len(m.Verts)
	for range 1 + within(64) {
		a := within(n)
		b := (a + 1 + within(n-1)) % n
		c := within(n)
		for c == a || c == b {
			c = (c + 1) % n
		}
		m.Tris = append(m.Tris, [3]int{a, b, c})
	}
	switch draw() % 16 {
	case 0:
		return setCoord(m, within(n), within(3), int(draw()))
	case 1:
		return setUv(m, within(n), within(2), int(draw()))
	case 2:
		return setCorner(m, within(len(m.Tris)), within(3), int(draw()))
	case 3:
		return setCorner(m, within(len(m.Tris)), within(3), within(n))
	}
	return m
}

func TestThereAndBack(t *testing.T) {
	draw := draws()
	good := 0
	for range 3000 {
		m := drawn(draw)
		checkAll(t, m)
		b, e := mesh.Encode(m)
		if e != api.OK {
			continue
		}
		good++
		if back, e := mesh.Decode(b); e != api.OK || !same(back, m) {
			t.Errorf("%v comes back as %v, %v", m, back, e)
		}
	}
	if good < 1000 {
		t.Errorf("only %d meshes without a fault were drawn", good)
	}
	for verts := 3; verts <= 64; verts++ {
		for tris := 1; tris <= 64; tris++ {
			m := sized(verts, verts, tris)
			b, e := mesh.Encode(m)
			if e != api.OK || len(b) != 2+10*verts+3*tris {
				t.Errorf("%d vertices, %d triangles: %d bytes, %v", verts, tris, len(b), e)
			}
			if back, e := mesh.Decode(b); e != api.OK || !same(back, m) {
				t.Errorf("%v comes back as %v, %v", m, back, e)
			}
		}
	}
}

// TestDrawnBytes decodes bytes that have the length that they tell, but seldom a mesh.
func TestDrawnBytes(t *testing.T) {
	draw := draws()
	for range 20000 {
		verts, tris := int(draw()%8), int(draw()%4)
		b := make([]byte, 2+10*verts+3*tris)
		for i := range b {
			b[i] = byte(draw() % 7)
		}
		b[0], b[1] = byte(verts), byte(tris)
		if draw()%8 == 0 {
			b[draw()%uint64(len(b))] = byte(draw())
		}
		checkDecode(t, b)
	}
}

// roomy returns m, of which each list has room behind it with what would be faults.
func roomy(m api.Mesh) api.Mesh {
	v, u, t := len(m.Verts), len(m.Uvs), len(m.Tris)
	return api.Mesh{
		Verts: append(slices.Clone(m.Verts), api.Point{X: 9999, Y: 9999, Z: 9999}, api.Point{X: 1})[:v],
		Uvs:   append(slices.Clone(m.Uvs), [2]int{-1, -1}, [2]int{7, 7})[:u],
		Tris:  append(slices.Clone(m.Tris), [3]int{-1, -1, -1}, [3]int{0, 1, 2})[:t],
	}
}

// TestMemoryBehind asks for meshes and bytes with room behind them, which is as it was.
func TestMemoryBehind(t *testing.T) {
	for _, m := range []api.Mesh{sized(3, 3, 1), sized(63, 63, 63), large(), sized(65, 65, 1), sized(3, 2, 1), sized(0, 0, 0)} {
		r := roomy(m)
		checkAll(t, r)
		want := roomy(m)
		whole := func(m api.Mesh) api.Mesh {
			return api.Mesh{Verts: m.Verts[:len(m.Verts)+2], Uvs: m.Uvs[:len(m.Uvs)+2], Tris: m.Tris[:len(m.Tris)+2]}
		}
		if !same(whole(r), whole(want)) {
			t.Errorf("%v became %v", whole(want), whole(r))
		}
	}
	b := layout(large())
	memory := slices.Concat(b, []byte{0xaa, 0xbb, 0xcc})
	if got, e := mesh.Decode(memory[:len(b)]); e != api.OK || !same(got, large()) || !bytes.Equal(memory, append(slices.Clone(b), 0xaa, 0xbb, 0xcc)) {
		t.Errorf("Decode with room behind: %v, %v, of %v", got, e, memory)
	}
	if got, e := mesh.Decode(memory[:len(b)-1]); e != api.ErrShort || !same(got, api.Mesh{}) {
		t.Errorf("Decode with the last byte behind: %v, %v", got, e)
	}
}

// spoil overwrites all that m holds, and the room behind it.
func spoil(m api.Mesh) {
	for i := range m.Verts[:cap(m.Verts)] {
		m.Verts[:cap(m.Verts)][i] = api.Point{X: 77, Y: 77, Z: 77}
	}
	for i := range m.Uvs[:cap(m.Uvs)] {
		m.Uvs[:cap(m.Uvs)][i] = [2]int{77, 77}
	}
	for i := range m.Tris[:cap(m.Tris)] {
		m.Tris[:cap(m.Tris)][i] = [3]int{77, 77, 77}
	}
}

// TestMemory changes what was handed in and what was returned.
func TestMemory(t *testing.T) {
	m, want := small()
	kept := clone(m)
	memory := slices.Clone(want)
	got, e := mesh.Decode(memory)
	if e != api.OK {
		t.Fatal(e)
	}
	for i := range memory {
		memory[i] = 0xbb
	}
	if !same(got, kept) {
		t.Errorf("the mesh is %v when its bytes are changed", got)
	}
	b, _ := mesh.Encode(m)
	lo, hi, _ := mesh.Box(m)
	p, uv, _ := mesh.Corners(m, 1)
	spoil(m)
	if !bytes.Equal(b, want) {
		t.Errorf("the bytes are %v when the mesh is changed", b)
	}
	if l, h, e := mesh.Box(kept); e != api.OK || l != lo || h != hi {
		t.Errorf("the box is %v, %v when the mesh is changed", lo, hi)
	}
	if q, w, e := mesh.Corners(kept, 1); e != api.OK || q != p || w != uv {
		t.Errorf("the corners are %v, %v when the mesh is changed", p, uv)
	}
	again, _ := mesh.Encode(kept)
	for i := range b[:cap(b)] {
		b[:cap(b)][i] = 0xcc
	}
	if third, e := mesh.Encode(kept); e != api.OK || !bytes.Equal(again, want) || !bytes.Equal(third, want) {
		t.Errorf("Encode = %v, %v, %v, when what it returned before is changed", again, third, e)
	}
	other, _ := mesh.Decode(want)
	spoil(got)
	if third, e := mesh.Decode(want); e != api.OK || !same(other, kept) || !same(third, kept) {
		t.Errorf("Decode = %v, %v, %v, when what it returned before is changed", other, third, e)
	}
}

// TestListsOfOneAnswer changes one list of a decoded mesh after the other, with its
// room: the others stay.
func TestListsOfOneAnswer(t *testing.T) {
	m := large()
	got, e := mesh.Decode(layout(m))
	if e != api.OK {
		t.Fatal(e)
	}
	spoil(api.Mesh{Verts: got.Verts})
	if !slices.Equal(got.Uvs, m.Uvs) || !slices.Equal(got.Tris, m.Tris) {
		t.Errorf("%v when the vertices are changed", got)
	}
	spoil(api.Mesh{Uvs: got.Uvs})
	if !slices.Equal(got.Tris, m.Tris) {
		t.Errorf("%v when the Uvs are changed", got)
	}
}

// TestErrorsAsNumbers holds the errors against their numbers.
func TestErrorsAsNumbers(t *testing.T) {
	good := sized(5, 5, 3)
	for _, x := range []struct {
		m    api.Mesh
		want int
	}{
		{good, 0}, {sized(65, 65, 1), 3}, {sized(5, 5, 65), 3}, {sized(0, 0, 1), 5}, {sized(5, 5, 0), 5}, {sized(5, 4, 1), 5},
		{setCoord(good, 1, 1, 4097), 8}, {setUv(good, 1, 1, 65536), 5}, {setCorner(good, 1, 1, 5), 5},
	} {
		if e := mesh.Check(x.m); int(e) != x.want {
			t.Errorf("Check(%v) = %d, want %d", x.m, int(e), x.want)
		}
	}
	if _, e := mesh.Decode(nil); int(e) != 4 {
		t.Errorf("Decode of nothing: %d", int(e))
	}
	if _, e := mesh.Decode(append(layout(good), 0)); int(e) != 5 {
		t.Errorf("Decode of one byte more: %d", int(e))
	}
	if _, _, e := mesh.Corners(good, 3); int(e) != 2 {
		t.Errorf("Corners: %d", int(e))
	}
}
