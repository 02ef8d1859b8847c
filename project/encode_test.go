package project_test

import (
	"encoding/binary"
	"math"
	"reflect"
	"slices"
	"testing"

	"umbra/api"
	"umbra/project"
)

// leaves calls visit for each number within a value, in the order in which the document
// encodes a scene's: that of the fields, with a list's length ahead of its elements.
// Lengths are no numbers that can be set.
func leaves(v reflect.Value, visit func(reflect.Value)) {
	switch v.Kind() {
	case reflect.Struct:
		for i := range v.NumField() {
			leaves(v.Field(i), visit)
		}
	case reflect.Slice:
		visit(reflect.ValueOf(v.Len()))
		fallthrough
	case reflect.Array:
		for i := range v.Len() {
			leaves(v.Index(i), visit)
		}
	default:
		visit(v)
	}
}

// modelEncode is the model of Encode.
func modelEncode(s api.Scene) []byte {
	var b []byte
	leaves(reflect.ValueOf(s), func(v reflect.Value) {
		n := uint64(0)
		if v.CanUint() {
			n = v.Uint()
		} else {
			n = uint64(v.Int())
		}
		b = binary.LittleEndian.AppendUint64(b, n)
	})
	return b
}

// modelDecode returns the scene of an encoding, and what is left behind it.
func modelDecode(b []byte) (s api.Scene, rest []byte) {
	number := func() uint64 {
		n := binary.LittleEndian.Uint64(b)
		b = b[8:]
		return n
	}
	var read func(v reflect.Value)
	read = func(v reflect.Value) {
		switch v.Kind() {
		case reflect.Struct:
			for i := range v.NumField() {
				read(v.Field(i))
			}
		case reflect.Slice:
			n := int(number())
			v.Set(reflect.MakeSlice(v.Type(), n, n))
			fallthrough
		case reflect.Array:
			for i := range v.Len() {
				read(v.Index(i))
			}
		default:
			if n := number(); v.CanUint() {
				v.SetUint(n)
			} else {
				v.SetInt(int64(n))
			}
		}
	}
	read(reflect.ValueOf(&s).Elem())
	return s, b
}

// rich returns a scene of so many of each part, with numbers that are all different, of
// both signs and of all sizes.
func rich(many int) api.Scene {
	s := api.Scene{
		Tris: make([]api.Tri, many), Mats: make([]api.Material, many), Texs: make([]api.Texture, many),
		Lights: make([]api.Light, many), Ids: make([]uint64, many), Labels: make([]uint32, many),
	}
	for i := range s.Texs {
		s.Texs[i].Texels = make([][3]int, many+i)
	}
	n := uint64(0)
	leaves(reflect.ValueOf(&s).Elem(), func(v reflect.Value) {
		n++
		scattered := n * 0x9e3779b97f4a7c15 >> (n % 50)
		switch {
		case !v.CanSet():
		case v.Kind() == reflect.Int:
			v.SetInt(int64(scattered))
		case v.Kind() == reflect.Uint8:
			v.SetUint(n * 37 % 256)
		case v.Kind() == reflect.Uint32:
			v.SetUint(scattered >> 32)
		default:
			v.SetUint(scattered)
		}
	})
	return s
}

// checkEncode holds the encoding of a scene against the model's, and against what the
// document's counts make its length, and looks whether the scene can be read from it.
func checkEncode(t *testing.T, s api.Scene) {
	t.Helper()
	kept := plain(s)
	got := project.Encode(s)
	if !same(s, kept) {
		t.Errorf("%+v became %+v", kept, s)
	}
	if !slices.Equal(got, modelEncode(s)) {
		t.Errorf("the encoding of %+v is %v, want %v", s, got, modelEncode(s))
		return
	}
	count := 6 + 19*len(s.Tris) + 5*len(s.Mats) + 13*len(s.Lights) + len(s.Ids) + len(s.Labels) + 3
	for _, x := range s.Texs {
		count += 2 + 3*len(x.Texels)
	}
	if len(got) != 8*count {
		t.Errorf("%d bytes, want %d", len(got), 8*count)
	}
	if back, rest := modelDecode(got); !same(back, s) || len(rest) != 0 {
		t.Errorf("%+v is read as %+v, and %v is left", s, back, rest)
	}
}

// bytesOf returns small numbers as the document encodes them, written out.
func bytesOf(numbers ...int) []byte {
	var b []byte
	for _, n := range numbers {
		sign := byte(0)
		if n < 0 {
			sign = 255
		}
		b = append(b, byte(n), byte(n>>8), byte(n>>16), sign, sign, sign, sign, sign)
	}
	return b
}

func TestEncodeModel(t *testing.T) {
	if got := bytesOf(258, -1, 1<<23); !slices.Equal(got, []byte{2, 1, 0, 0, 0, 0, 0, 0, 255, 255, 255, 255, 255, 255, 255, 255, 0, 0, 128, 0, 0, 0, 0, 0}) {
		t.Error(got)
	}
	if got := modelEncode(api.Scene{Ids: []uint64{5}, Label: 7}); !slices.Equal(got, bytesOf(0, 0, 0, 0, 1, 5, 0, 7, 0, 0)) {
		t.Error(got)
	}
	s := rich(2)
	if len(s.Tris) != 2 || len(s.Texs[1].Texels) != 3 || s.Tris[1].Mask == 0 || s.To == 0 || s.Texs[1].Texels[2][2] == 0 {
		t.Error(s)
	}
	if back, rest := modelDecode(append(modelEncode(s), 9)); !same(back, s) || !slices.Equal(rest, []byte{9}) {
		t.Error(back, rest)
	}
}

func TestEncodeNothing(t *testing.T) {
	if got := project.Encode(api.Scene{}); !slices.Equal(got, make([]byte, 72)) {
		t.Errorf("of the zero scene: %v, want 72 bytes 0", got)
	}
	none := api.Scene{Tris: []api.Tri{}, Mats: []api.Material{}, Texs: []api.Texture{}, Lights: []api.Light{}, Ids: []uint64{}, Labels: []uint32{}}
	if got := project.Encode(none); !slices.Equal(got, make([]byte, 72)) {
		t.Errorf("of empty lists: %v, want 72 bytes 0", got)
	}
	s := scene(t, world{}.table(t), 0)
	want := append(make([]byte, 64), 255, 255, 255, 255, 0, 0, 0, 0)
	if got := project.Encode(s); !slices.Equal(got, want) {
		t.Errorf("of what is seen of nothing: %v, want %v", got, want)
	}
}

// one returns a scene of one of each part, in which each number tells its place in the
// encoding.
func one() api.Scene {
	return api.Scene{
		Tris: []api.Tri{{
			P:   [3]api.Point{{X: 2, Y: 3, Z: 4}, {X: 5, Y: 6, Z: 7}, {X: 8, Y: 9, Z: 10}},
			Uv:  [3][2]int{{11, 12}, {13, 14}, {15, 16}},
			Mat: 17, Tex: 18, Obj: 19, Mask: 20,
		}},
		Mats:   []api.Material{{Kind: 22, Color: [3]int{23, 24, 25}, Rough: 26}},
		Texs:   []api.Texture{{Side: 28, Texels: [][3]int{{30, 31, 32}, {33, 34, 35}}}},
		Lights: []api.Light{{Kind: 37, Color: [3]int{38, 39, 40}, At: api.Point{X: 41, Y: 42, Z: 43}, U: api.Point{X: 44, Y: 45, Z: 46}, V: api.Point{X: 47, Y: 48, Z: 49}}},
		Ids:    []uint64{51},
		Labels: []uint32{53},
		Label:  54, From: 55, To: 56,
	}
}

func TestEncodeOne(t *testing.T) {
	var want []int
	for i := range 56 {
		want = append(want, i+1)
	}
	for _, count := range []int{1, 21, 27, 36, 50, 52} {
		want[count-1] = 1
	}
	want[29-1] = 2 // texels
	if got := project.Encode(one()); !slices.Equal(got, bytesOf(want...)) {
		t.Errorf("%v, want %v", got, bytesOf(want...))
	}
}

// TestEncodeLists encodes lists of several elements, number by number.
func TestEncodeLists(t *testing.T) {
	p := func(x int) api.Point { return api.Point{X: x, Y: -x, Z: x + 1} }
	for i, x := range []struct {
		s    api.Scene
		want []int
	}{
		{
			api.Scene{Tris: []api.Tri{{Tex: -1}, {P: [3]api.Point{p(1), p(3), p(5)}, Uv: [3][2]int{{7, 8}, {9, 10}, {11, 12}}, Mat: -13, Tex: -1, Obj: -14, Mask: 255}}},
			[]int{
				2,
				0, 0, 0, 0, 0, 0, 0, 0, 0, 0, 0, 0, 0, 0, 0, 0, -1, 0, 0,
				1, -1, 2, 3, -3, 4, 5, -5, 6, 7, 8, 9, 10, 11, 12, -13, -1, -14, 255,
				0, 0, 0, 0, 0, 0, 0, 0,
			},
		},
		{
			api.Scene{Mats: []api.Material{{Kind: 1}, {Kind: -2, Color: [3]int{3, 4, 5}, Rough: 6}, {Rough: 65535}}},
			[]int{0, 3, 1, 0, 0, 0, 0, -2, 3, 4, 5, 6, 0, 0, 0, 0, 65535, 0, 0, 0, 0, 0, 0, 0},
		},
		{
			api.Scene{Texs: []api.Texture{{Side: 16}, {Side: 1, Texels: [][3]int{{2, 3, 4}}}, {Side: -5, Texels: [][3]int{{}, {6, 7, 8}}}}},
			[]int{0, 0, 3, 16, 0, 1, 1, 2, 3, 4, -5, 2, 0, 0, 0, 6, 7, 8, 0, 0, 0, 0, 0, 0},
		},
		{
			api.Scene{Lights: []api.Light{{Kind: 2, Color: [3]int{1, 1048576, 3}}, {At: p(4), U: p(6), V: p(8)}}},
			[]int{0, 0, 0, 2, 2, 1, 1048576, 3, 0, 0, 0, 0, 0, 0, 0, 0, 0, 0, 0, 0, 0, 4, -4, 5, 6, -6, 7, 8, -8, 9, 0, 0, 0, 0, 0},
		},
		{api.Scene{Ids: []uint64{3, 1, 2}}, []int{0, 0, 0, 0, 3, 3, 1, 2, 0, 0, 0, 0}},
		{api.Scene{Labels: []uint32{3, 1, 2}}, []int{0, 0, 0, 0, 0, 3, 3, 1, 2, 0, 0, 0}},
		{api.Scene{Label: 1, From: 2, To: 3}, []int{0, 0, 0, 0, 0, 0, 1, 2, 3}},
	} {
		if got := project.Encode(x.s); !slices.Equal(got, bytesOf(x.want...)) {
			t.Errorf("%d: %v, want %v", i, got, bytesOf(x.want...))
		}
		checkEncode(t, x.s)
	}
}

func TestEncodeIds(t *testing.T) {
	got := project.Encode(api.Scene{Ids: []uint64{0, 1<<63 - 1, 1 << 63, 1<<63 + 1, math.MaxUint64}})
	want := slices.Concat(bytesOf(0, 0, 0, 0, 5, 0), []byte{
		255, 255, 255, 255, 255, 255, 255, 127,
		0, 0, 0, 0, 0, 0, 0, 128,
		1, 0, 0, 0, 0, 0, 0, 128,
		255, 255, 255, 255, 255, 255, 255, 255,
	}, bytesOf(0, 0, 0, 0))
	if !slices.Equal(got, want) {
		t.Errorf("%v, want %v", got, want)
	}
}

func TestEncodeLabels(t *testing.T) {
	got := project.Encode(api.Scene{Labels: []uint32{1<<31 - 1, 1 << 31, last}, Label: last, From: 1 << 31, To: last - 1})
	want := slices.Concat(bytesOf(0, 0, 0, 0, 0, 3), []byte{
		255, 255, 255, 127, 0, 0, 0, 0,
		0, 0, 0, 128, 0, 0, 0, 0,
		255, 255, 255, 255, 0, 0, 0, 0,
		255, 255, 255, 255, 0, 0, 0, 0,
		0, 0, 0, 128, 0, 0, 0, 0,
		254, 255, 255, 255, 0, 0, 0, 0,
	})
	if !slices.Equal(got, want) {
		t.Errorf("%v, want %v", got, want)
	}
}

func TestEncodeRich(t *testing.T) {
	for many := range 6 {
		checkEncode(t, rich(many))
	}
}

// extremes returns numbers of a kind at the ends of their ranges and at each power of two.
func extremes(v reflect.Value) []reflect.Value {
	var l []reflect.Value
	for i := range 64 {
		for _, n := range []uint64{1 << i, 1<<i - 1, -(1 << i), -(1 << i) - 1} {
			l = append(l, reflect.ValueOf(n).Convert(v.Type()))
		}
	}
	return l
}

// TestEncodeEachNumber puts each number of a scene at the ends of its range, and at many
// others: each makes another encoding, which the model's decoder reads.
func TestEncodeEachNumber(t *testing.T) {
	s := one()
	seen := map[string]int{string(project.Encode(s)): 1}
	numbers := 0
	leaves(reflect.ValueOf(&s).Elem(), func(v reflect.Value) {
		if !v.CanSet() {
			return
		}
		numbers++
		kept := reflect.ValueOf(v.Interface())
		made := map[any]bool{kept.Interface(): true}
		for _, n := range extremes(v) {
			if made[n.Interface()] {
				continue
			}
			made[n.Interface()] = true
			v.Set(n)
			checkEncode(t, s)
			seen[string(project.Encode(s))]++
		}
		v.Set(kept)
	})
	if numbers != 49 {
		t.Errorf("%d numbers, want 49", numbers)
	}
	for b, n := range seen {
		if n != 1 {
			t.Errorf("%d scenes are encoded as %v", n, []byte(b))
		}
	}
	if len(seen) < 49*100 {
		t.Errorf("only %d scenes", len(seen))
	}
}

// filled returns a scene whose lists have these lengths, the texels of each texture the
// last one, and in which all other numbers are n.
func filled(lengths [7]int, n uint64) api.Scene {
	s := api.Scene{
		Tris: make([]api.Tri, lengths[0]), Mats: make([]api.Material, lengths[1]), Texs: make([]api.Texture, lengths[2]),
		Lights: make([]api.Light, lengths[3]), Ids: make([]uint64, lengths[4]), Labels: make([]uint32, lengths[5]),
	}
	for i := range s.Texs {
		s.Texs[i].Texels = make([][3]int, lengths[6])
	}
	leaves(reflect.ValueOf(&s).Elem(), func(v reflect.Value) {
		if v.CanSet() {
			v.Set(reflect.ValueOf(n).Convert(v.Type()))
		}
	})
	return s
}

// TestEncodeEachLength encodes scenes of every few lengths, where one list is longer and
// another one shorter as well, with numbers that could be taken for lengths: no two have
// the same encoding.
func TestEncodeEachLength(t *testing.T) {
	seen := map[string]bool{}
	scenes := 0
	for code := range 3 * 3 * 3 * 3 * 3 * 3 * 3 {
		var lengths [7]int
		for i := range lengths {
			lengths[i] = code % 3
			code /= 3
		}
		if lengths[2] == 0 && lengths[6] != 0 {
			continue // texels of no texture
		}
		for n := range uint64(3) {
			s := filled(lengths, n)
			checkEncode(t, s)
			seen[string(project.Encode(s))] = true
			scenes++
		}
	}
	if len(seen) != scenes || scenes != 5103 {
		t.Errorf("%d scenes have %d encodings", scenes, len(seen))
	}
}

// TestEncodeMoved moves the same numbers from the end of one list to the start of the
// next one.
func TestEncodeMoved(t *testing.T) {
	seen := map[string]bool{}
	ids, labels := []uint64{1, 2, 3, 4}, []uint32{1, 2, 3, 4}
	for i := range 5 {
		for j := range 5 {
			seen[string(project.Encode(api.Scene{Ids: ids[:i], Labels: labels[j:]}))] = true
		}
	}
	texels := [][3]int{{1, 1, 1}, {1, 1, 1}, {1, 1, 1}, {1, 1, 1}}
	for i := range 5 {
		for j := range 5 {
			seen[string(project.Encode(api.Scene{Texs: []api.Texture{{Side: 1, Texels: texels[:i]}, {Side: 1, Texels: texels[:j]}}}))] = true
		}
	}
	if len(seen) != 50 {
		t.Errorf("50 scenes have %d encodings", len(seen))
	}
}

// TestEncodeMany encodes a scene that is far greater than any class.
func TestEncodeMany(t *testing.T) {
	s := api.Scene{Tris: make([]api.Tri, 50000), Ids: make([]uint64, 70000)}
	s.Tris[49999].Mask, s.Ids[69999] = 7, math.MaxUint64
	if !slices.Equal(project.Encode(s), modelEncode(s)) {
		t.Error("the encoding is not the model's")
	}
}

// TestEncodeKeeps changes what Encode was handed and what it told, and looks what is
// behind the ends of the lists.
func TestEncodeKeeps(t *testing.T) {
	s := rich(4)
	cut := api.Scene{Tris: s.Tris[:2], Mats: s.Mats[:2], Texs: s.Texs[:2], Lights: s.Lights[:2], Ids: s.Ids[:2], Labels: s.Labels[:2]}
	cut.Texs[1].Texels = cut.Texs[1].Texels[:3]
	want := modelEncode(cut)
	first := project.Encode(cut)
	if !slices.Equal(first, want) {
		t.Errorf("%v, want %v", first, want)
	}
	spoil(first)
	second := project.Encode(cut)
	if !slices.Equal(second, want) {
		t.Error("what was told before counts")
	}
	whole := rich(4)
	cut.Texs[1].Texels = cut.Texs[1].Texels[:5]
	if !same(s, whole) {
		t.Errorf("%+v became %+v", whole, s)
	}
	spoilScene(s)
	if !slices.Equal(second, want) {
		t.Error("what was told changes with what was handed in")
	}
	for _, x := range second[len(second):cap(second)] {
		if x != 0 {
			t.Error("there is something behind what was told")
		}
	}
}

func TestClass(t *testing.T) {
	for _, x := range []struct{ n, tris, lights int }{
		{0, 16, 4}, {1, 64, 4}, {2, 256, 8}, {3, 0, 0}, {-1, 0, 0}, {least, 0, 0}, {most, 0, 0}, {4, 0, 0}, {5, 0, 0}, {-2, 0, 0},
		{16, 0, 0}, {64, 0, 0}, {256, 0, 0}, {257, 0, 0}, {1 << 16, 0, 0}, {1 << 32, 0, 0}, {1<<32 + 1, 0, 0}, {-1<<32 + 2, 0, 0},
		{least + 1, 0, 0}, {least + 2, 0, 0}, {most - 1, 0, 0},
	} {
		if tris, lights := project.Class(x.n); tris != x.tris || lights != x.lights {
			t.Errorf("class %d has %d triangles and %d lights, want %d and %d", x.n, tris, lights, x.tris, x.lights)
		}
	}
	for n := 3; n < 1000; n++ {
		if tris, lights := project.Class(n); tris != 0 || lights != 0 {
			t.Errorf("class %d has %d triangles and %d lights", n, tris, lights)
		}
	}
}

// sized returns a scene of so many triangles and lights, with many of all other parts,
// which do not count.
func sized(tris, lights int) api.Scene {
	return api.Scene{
		Tris: make([]api.Tri, tris, tris+300), Lights: make([]api.Light, lights, lights+300),
		Mats: make([]api.Material, 300), Texs: make([]api.Texture, 300), Ids: make([]uint64, 300), Labels: make([]uint32, 300),
		Label: last, From: 9, To: 5,
	}
}

func TestFits(t *testing.T) {
	classes := map[int][2]int{0: {16, 4}, 1: {64, 4}, 2: {256, 8}}
	for _, n := range []int{-1, 3, 4, 16, 1 << 32, 1<<32 + 1, least, least + 1, most} {
		classes[n] = [2]int{0, 0}
	}
	for class, has := range classes {
		for _, tris := range []int{0, 1, 15, 16, 17, 63, 64, 65, 255, 256, 257, 1000} {
			for lights := range 11 {
				want := api.OK
				if tris > has[0] || lights > has[1] {
					want = api.ErrClass
				}
				s := sized(tris, lights)
				expect(t, project.Fits(s, class), want, class, tris, lights)
				if !same(s, sized(tris, lights)) {
					t.Error("Fits changes the scene")
				}
			}
		}
		expect(t, project.Fits(sized(has[0], has[1]), class), api.OK, class)
		expect(t, project.Fits(sized(has[0]+1, has[1]), class), api.ErrClass, class)
		expect(t, project.Fits(sized(has[0], has[1]+1), class), api.ErrClass, class)
		expect(t, project.Fits(sized(has[0]+1, has[1]+1), class), api.ErrClass, class)
		expect(t, project.Fits(api.Scene{}, class), api.OK, class)
	}
}
