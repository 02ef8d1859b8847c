package label_test

import (
	"math"
	"reflect"
	"slices"
	"testing"

	"umbra/api"
	"umbra/label"
)

const (
	least = math.MinInt
	most  = math.MaxInt
	last  = math.MaxUint32 // the label of all bits, and the last moment
)

// draws returns a function that draws numbers, the same ones in every run, of all
// sizes and of both signs.
func draws() func() uint64 {
	state := uint64(0x9e3779b97f4a7c15)
	next := func() uint64 {
		state ^= state << 13
		state ^= state >> 7
		state ^= state << 17
		return state
	}
	return func() uint64 { return uint64(int64(next()) >> (next() % 64)) }
}

// orders returns a list in each order that it can have.
func orders[E any](l []E) [][]E {
	if len(l) == 0 {
		return [][]E{nil}
	}
	var all [][]E
	for _, rest := range orders(l[1:]) {
		for i := range len(rest) + 1 {
			all = append(all, slices.Insert(slices.Clone(rest), i, l[0]))
		}
	}
	return all
}

// has reports whether a label has the bit i: whether it is odd when halved i times.
func has(l uint32, i int) bool {
	for range i {
		l /= 2
	}
	return l%2 == 1
}

// modelJoin adds up the bits that any of the labels has.
func modelJoin(l ...uint32) uint32 {
	sum, bit := uint64(0), uint64(1)
	for i := range 32 {
		if slices.ContainsFunc(l, func(x uint32) bool { return has(x, i) }) {
			sum += bit
		}
		bit *= 2
	}
	return uint32(sum)
}

// modelBelow asks for one bit after the other.
func modelBelow(a, b uint32) bool {
	for i := range 32 {
		if has(a, i) && !has(b, i) {
			return false
		}
	}
	return true
}

// singles returns the labels of one bit each.
func singles() []uint32 {
	var l []uint32
	for bit := uint64(1); bit <= last; bit *= 2 {
		l = append(l, uint32(bit))
	}
	return l
}

// labels returns unlike ones: none, all, each bit alone, all but each bit, those up to
// each bit, and several others.
func labels() []uint32 {
	l := []uint32{0, last, 5, 10, 0x0f0f0f0f, 0xf0f0f0f0, 0x55555555, 0xaaaaaaaa, 0xffff0000, 0x12345678, 0xfedcba98, 0x80000001}
	for _, bit := range singles() {
		l = append(l, bit, last-bit, bit-1)
	}
	slices.Sort(l)
	return slices.Compact(l)
}

// corners returns the labels of the bits 0, 7, 16 and 31: all there are.
func corners() []uint32 {
	l := []uint32{0}
	for _, bit := range []uint32{1, 1 << 7, 1 << 16, 1 << 31} {
		for _, x := range l {
			l = append(l, x+bit)
		}
	}
	return l
}

func TestModel(t *testing.T) {
	for _, x := range []struct {
		l    []uint32
		want uint32
	}{
		{nil, 0}, {[]uint32{last}, last}, {[]uint32{1, 4}, 5}, {[]uint32{12, 6}, 14}, {[]uint32{1 << 31, 1}, 0x80000001},
	} {
		if got := modelJoin(x.l...); got != x.want {
			t.Errorf("of %v the model joins %#x, want %#x", x.l, got, x.want)
		}
	}
	if !modelBelow(1, 5) || modelBelow(2, 5) || !modelBelow(0, 0) || modelBelow(last, last-1) || !modelBelow(1<<31, last) {
		t.Error("the model of Below")
	}
	if l := singles(); len(l) != 32 || l[0] != 1 || l[31] != 1<<31 {
		t.Error(l)
	}
	if l := corners(); len(l) != 16 || l[15] != 0x80010081 {
		t.Error(l)
	}
	l := orders([]int{1, 2, 3})
	slices.SortFunc(l, slices.Compare)
	if l = slices.CompactFunc(l, slices.Equal); len(l) != 6 || !slices.Equal(l[0], []int{1, 2, 3}) || !slices.Equal(l[5], []int{3, 2, 1}) {
		t.Error(l)
	}
}

// checkJoin holds Join against the model, and looks whether its arguments stay.
func checkJoin(t *testing.T, l []uint32) {
	t.Helper()
	kept := slices.Clone(l)
	if got, want := label.Join(l...), modelJoin(l...); got != want {
		t.Errorf("Join(%v) = %#x, want %#x", l, got, want)
	}
	if !slices.Equal(l, kept) {
		t.Errorf("%v became %v", kept, l)
	}
}

func TestExample(t *testing.T) {
	if got := label.Join(1, 4); got != 5 {
		t.Error(got)
	}
	if !label.Below(1, 5) || label.Below(2, 5) {
		t.Error("Below")
	}
}

func TestJoin(t *testing.T) {
	for _, x := range []struct {
		got, want uint32
	}{
		{label.Join(), 0},
		{label.Join(nil...), 0},
		{label.Join([]uint32{}...), 0},
		{label.Join(0), 0},
		{label.Join(7), 7},
		{label.Join(last), last},
		{label.Join(0, 0), 0},
		{label.Join(0, last), last},
		{label.Join(last, 0), last},
		{label.Join(last, last), last},
		{label.Join(3, 5), 7},
		{label.Join(6, 6), 6},
		{label.Join(1, 1<<31), 0x80000001},
		{label.Join(0xffff0000, 0x0000ffff), last},
		{label.Join(1, 2, 4), 7},
		{label.Join(3, 6, 12), 15},
		{label.Join(8, 0, 8), 8},
		{label.Join(0x100, 0x10000, 0x1000000, 1), 0x01010101},
		{label.Join([]uint32{9, 18, 36, 72}...), 127},
		{label.Join([]uint32{last - 1, 0, 2, 1}...), last},
	} {
		if x.got != x.want {
			t.Errorf("Join is %#x, want %#x", x.got, x.want)
		}
	}
}

func TestJoinOfEachPair(t *testing.T) {
	for _, a := range labels() {
		checkJoin(t, []uint32{a})
		for _, b := range labels() {
			checkJoin(t, []uint32{a, b})
			if got := label.Join(a, b); got != modelJoin(a, b) {
				t.Errorf("Join(%#x, %#x) = %#x", a, b, got)
			}
		}
	}
}

// TestJoinOfSingleBits joins all bits, and all but one.
func TestJoinOfSingleBits(t *testing.T) {
	if got := label.Join(singles()...); got != last {
		t.Errorf("of all bits: %#x", got)
	}
	for i, bit := range singles() {
		if got := label.Join(bit); got != bit {
			t.Errorf("Join(%#x) = %#x", bit, got)
		}
		if got := label.Join(slices.Delete(singles(), i, i+1)...); got != last-bit {
			t.Errorf("of all bits but %#x: %#x", bit, got)
		}
	}
}

// TestJoinOfEachPlace joins labels of which one alone has bits, wherever it stands.
func TestJoinOfEachPlace(t *testing.T) {
	for n := range 40 {
		for i := range n {
			l := make([]uint32, n)
			l[i] = 0x80000100
			checkJoin(t, l)
		}
	}
}

func TestJoinInEachOrder(t *testing.T) {
	for _, l := range [][]uint32{
		{1, 4}, {3, 5, 6}, {0, 1, last}, {1, 2, 4, 8}, {0x80000000, 0x80000001, 0, 0x7fff},
		{0, 0x11, 0x12, 0x1800, 0xf0000000}, {last, 1, 1 << 31, 0, 77}, {5, 5, 10, 10, 5}, {1, 3, 7, 15, 31, 63},
	} {
		want := modelJoin(l...)
		for _, order := range orders(l) {
			if got := label.Join(order...); got != want {
				t.Errorf("Join(%v) = %#x, want %#x", order, got, want)
			}
		}
	}
}

func TestJoinOfRepeated(t *testing.T) {
	for _, l := range [][]uint32{{1, 4}, {3, 5, 6}, {0, 1, last}, {0x80000000, 0x80000001, 0, 0x7fff}, {5, 10, 0x50}} {
		want := modelJoin(l...)
		if got := label.Join(slices.Concat(l, l)...); got != want {
			t.Errorf("Join of %v twice is %#x, want %#x", l, got, want)
		}
		for i, again := range l {
			for times := range 4 {
				more := slices.Insert(slices.Clone(l), i, slices.Repeat([]uint32{again}, times)...)
				if got := label.Join(more...); got != want {
					t.Errorf("Join(%v) = %#x, want %#x", more, got, want)
				}
			}
		}
	}
}

func TestJoinOfMany(t *testing.T) {
	draw := draws()
	for range 2000 {
		l := make([]uint32, draw()%20)
		for i := range l {
			// Few bits each, so that what is left out is missed.
			l[i] = uint32(draw() & draw() & draw())
		}
		checkJoin(t, l)
	}
	many := make([]uint32, 1<<17)
	for i := range many {
		many[i] = 8
	}
	many[1<<17-1], many[0], many[1<<16] = 1, 2, 1<<31
	checkJoin(t, many)
}

// TestJoinOfSlice hands in a part of a list, of which the rest must not be looked at.
func TestJoinOfSlice(t *testing.T) {
	whole := []uint32{1 << 31, 1, 4, 64, 256}
	kept := slices.Clone(whole)
	for from := range len(whole) + 1 {
		for to := from; to <= len(whole); to++ {
			checkJoin(t, whole[from:to])
			checkJoin(t, whole[from:to:to])
		}
	}
	if !slices.Equal(whole, kept) {
		t.Errorf("%v became %v", kept, whole)
	}
}

// TestJoinKeepsNothing changes what was handed in, and joins less than before.
func TestJoinKeepsNothing(t *testing.T) {
	l := []uint32{1, 2, 4}
	if got := label.Join(l...); got != 7 {
		t.Error(got)
	}
	l[1] = 0
	if got := label.Join(l...); got != 5 {
		t.Error(got)
	}
	if got := label.Join(l[:1]...); got != 1 {
		t.Error(got)
	}
	if got := label.Join(); got != 0 {
		t.Error(got)
	}
}

func TestBelow(t *testing.T) {
	for _, x := range []struct {
		a, b uint32
		want bool
	}{
		{0, 0, true}, {0, 1, true}, {1, 0, false}, {0, last, true}, {last, 0, false}, {last, last, true},
		{last - 1, last, true}, {last, last - 1, false}, {1 << 31, last, true}, {last, 1 << 31, false},
		{1, 5, true}, {4, 5, true}, {5, 5, true}, {2, 5, false}, {3, 5, false}, {6, 5, false}, {7, 5, false}, {5, 1, false}, {5, 7, true},
		{1, 2, false}, {2, 1, false}, {4, 8, false}, {8, 4, false}, {1 << 31, 1<<31 - 1, false}, {1<<31 - 1, 1 << 31, false},
		{0x55555555, 0xaaaaaaaa, false}, {0x05050505, 0x55555555, true},
	} {
		if got := label.Below(x.a, x.b); got != x.want {
			t.Errorf("Below(%#x, %#x) = %v", x.a, x.b, got)
		}
	}
}

func TestBelowOfEachPair(t *testing.T) {
	for _, a := range labels() {
		for _, b := range labels() {
			got := label.Below(a, b)
			if got != modelBelow(a, b) {
				t.Errorf("Below(%#x, %#x) = %v", a, b, got)
			}
			if got && label.Below(b, a) && a != b {
				t.Errorf("%#x and %#x are below one another", a, b)
			}
		}
	}
}

func TestBelowOfDrawn(t *testing.T) {
	draw := draws()
	for range 20000 {
		a, b := uint32(draw()), uint32(draw())
		for _, x := range [][2]uint32{{a, b}, {b, a}, {a & b, b}, {a, a | b}, {a | 1<<(b%32), a}, {a, a | 1<<(b%32)}, {a, a}} {
			if got := label.Below(x[0], x[1]); got != modelBelow(x[0], x[1]) {
				t.Errorf("Below(%#x, %#x) = %v", x[0], x[1], got)
			}
		}
	}
}

func TestBelowIsTransitive(t *testing.T) {
	for _, list := range [][]uint32{corners(), labels()} {
		for _, a := range list {
			for _, b := range list {
				if !label.Below(a, b) {
					continue
				}
				for _, c := range list {
					if label.Below(b, c) && !label.Below(a, c) {
						t.Errorf("%#x is below %#x, that below %#x, but not the first below the last", a, b, c)
					}
				}
			}
		}
	}
}

// TestJoinIsLeast looks for labels that all arguments are below, just if the Join is.
func TestJoinIsLeast(t *testing.T) {
	check := func(l ...uint32) {
		join := label.Join(l...)
		for _, a := range l {
			if !label.Below(a, join) {
				t.Errorf("of %v %#x is not below the Join, %#x", l, a, join)
			}
		}
		for _, above := range slices.Concat(corners(), labels()) {
			isAbove := func(a uint32) bool { return label.Below(a, above) }
			all := !slices.ContainsFunc(l, func(a uint32) bool { return !isAbove(a) })
			if isAbove(join) != all {
				t.Errorf("the Join of %v is %#x: below %#x %v, want %v", l, join, above, isAbove(join), all)
			}
		}
	}
	check()
	for _, a := range corners() {
		check(a)
		for _, b := range corners() {
			check(a, b)
			for _, c := range corners() {
				check(a, b, c)
			}
		}
	}
	check(singles()...)
	check(1, 2, 4, 1<<15, 1<<30)
}

// masks returns several of which the eight entries are all different.
func masks() [][8]uint8 {
	return [][8]uint8{
		{0, 1, 2, 4, 8, 15, 16, 255},
		{255, 16, 15, 8, 4, 2, 1, 0},
		{7, 3, 255, 128, 0, 64, 9, 5},
		{1, 2, 3, 4, 5, 6, 7, 8},
		{100, 0, 200, 50, 255, 25, 12, 6},
	}
}

// noLayers are beside and far from the layers. Some are layers in 8, 16 or 32 bits.
func noLayers() []int {
	return []int{
		-1, 8, least, most, 9, 10, 15, 16, 63, 64, 127, 128, 255, 256, 257, 263, 1 << 16, 1<<16 + 3, 1<<31 - 1, 1 << 31,
		1 << 32, 1<<32 + 1, 1<<32 + 7, 1 << 62, most - 1, most - 7, -2, -3, -7, -8, -9, -256, -249, -1 << 16, -1 << 31, -1 << 32,
		-1<<32 + 5, least + 1, least + 2, least + 7, least + 8,
	}
}

func TestBits(t *testing.T) {
	for _, m := range masks() {
		kept := m
		for layer, want := range m {
			if got := label.Bits(m, layer); got != want {
				t.Errorf("Bits(%v, %d) = %d", m, layer, got)
			}
			if got := label.Sees(m, layer); got != (want != 0) {
				t.Errorf("Sees(%v, %d) = %v", m, layer, got)
			}
		}
		if m != kept {
			t.Errorf("%v became %v", kept, m)
		}
	}
}

// TestEachMask looks at every value of each layer's mask, all the others being 0, and
// all being 255.
func TestEachMask(t *testing.T) {
	for layer := range 8 {
		for _, others := range []uint8{0, 255} {
			for value := range 256 {
				var m [8]uint8
				for i := range m {
					m[i] = others
				}
				m[layer] = uint8(value)
				if bits, sees := label.Bits(m, layer), label.Sees(m, layer); bits != uint8(value) || sees != (value > 0) {
					t.Errorf("of %v the layer %d: %d, %v", m, layer, bits, sees)
				}
			}
		}
	}
}

func TestNoLayers(t *testing.T) {
	list := append(masks(), [8]uint8{255, 255, 255, 255, 255, 255, 255, 255})
	for _, m := range list {
		for _, layer := range noLayers() {
			if bits, sees := label.Bits(m, layer), label.Sees(m, layer); bits != 0 || sees {
				t.Errorf("of %v the layer %d: %d, %v", m, layer, bits, sees)
			}
		}
		for layer := -300; layer < 300; layer++ {
			in := 0 <= layer && layer <= 7
			if bits, sees := label.Bits(m, layer), label.Sees(m, layer); !in && (bits != 0 || sees) || in && bits != m[layer] {
				t.Errorf("of %v the layer %d: %d, %v", m, layer, bits, sees)
			}
		}
	}
}

func TestHolds(t *testing.T) {
	for _, x := range []struct {
		from, to, clock uint32
		want            bool
	}{
		{10, 20, 9, false}, {10, 20, 10, true}, {10, 20, 11, true}, {10, 20, 15, true}, {10, 20, 19, true}, {10, 20, 20, true}, {10, 20, 21, false},
		{10, 20, 0, false}, {10, 20, last, false},
		{7, 7, 6, false}, {7, 7, 7, true}, {7, 7, 8, false},
		{0, 0, 0, true}, {0, 0, 1, false}, {0, 0, last, false},
		{last, last, last, true}, {last, last, last - 1, false}, {last, last, 0, false},
		{0, last, 0, true}, {0, last, 1, true}, {0, last, 1 << 31, true}, {0, last, last - 1, true}, {0, last, last, true},
		{0, 5, 0, true}, {0, 5, 5, true}, {0, 5, 6, false}, {0, 5, last, false},
		{last - 5, last, last, true}, {last - 5, last, last - 5, true}, {last - 5, last, last - 6, false}, {last - 5, last, 0, false},
		{20, 10, 9, false}, {20, 10, 10, false}, {20, 10, 15, false}, {20, 10, 20, false}, {20, 10, 21, false},
		{8, 7, 7, false}, {8, 7, 8, false}, {last, 0, 0, false}, {last, 0, last, false}, {last, 0, 1 << 31, false},
		{1<<31 - 1, 1 << 31, 1<<31 - 2, false}, {1<<31 - 1, 1 << 31, 1<<31 - 1, true}, {1<<31 - 1, 1 << 31, 1 << 31, true}, {1<<31 - 1, 1 << 31, 1<<31 + 1, false},
		{1, 1 << 31, last, false}, {1 << 31, last, 1, false}, {1, last - 1, 1 << 31, true},
	} {
		if got := label.Holds(x.from, x.to, x.clock); got != x.want {
			t.Errorf("Holds(%d, %d, %d) = %v", x.from, x.to, x.clock, got)
		}
	}
}

// modelHolds goes from the first moment to the last one: the window should be short.
func modelHolds(from, to, clock uint32) bool {
	for moment := uint64(from); moment <= uint64(to); moment++ {
		if moment == uint64(clock) {
			return true
		}
	}
	return false
}

// TestHoldsOfEach takes every window and clock within a few moments at each side and in
// the middle of all moments.
func TestHoldsOfEach(t *testing.T) {
	for _, first := range []uint32{0, 1<<16 - 4, 1<<31 - 4, last - 8} {
		for i := range uint32(9) {
			for j := range uint32(9) {
				for k := range uint32(9) {
					from, to, clock := first+i, first+j, first+k
					if got := label.Holds(from, to, clock); got != modelHolds(from, to, clock) {
						t.Errorf("Holds(%d, %d, %d) = %v", from, to, clock, got)
					}
				}
			}
		}
	}
}

// window is from when to when a licence holds.
type window struct{ from, to uint32 }

// manifest returns one with that window, and with other fields, not all of which may be,
// that play no part.
func (w window) manifest() api.Manifest {
	return api.Manifest{
		Id: math.MaxUint64, Kind: -3, Label: 0x99aabbcc, Masks: [8]uint8{255, 0, 2, 3, 4, 5, 6, 7},
		From: w.from, To: w.to, Size: least, Chunks: most,
	}
}

// manifests returns those of windows.
func manifests(l []window) []api.Manifest {
	var m []api.Manifest
	for _, w := range l {
		m = append(m, w.manifest())
	}
	return m
}

// modelMeet sorts the moments.
func modelMeet(l []window) window {
	var froms, tos []uint32
	for _, w := range l {
		froms, tos = append(froms, w.from), append(tos, w.to)
	}
	slices.Sort(froms)
	slices.Sort(tos)
	return window{froms[len(froms)-1], tos[0]}
}

// meet is Meet of windows, of which the first is not in a manifest.
func meet(l []window) window {
	from, to := label.Meet(l[0].from, l[0].to, manifests(l[1:])...)
	return window{from, to}
}

func TestMeet(t *testing.T) {
	for _, x := range []struct {
		l    []window
		want window
	}{
		{[]window{{3, 9}}, window{3, 9}},
		{[]window{{0, last}}, window{0, last}},
		{[]window{{9, 3}}, window{9, 3}},
		{[]window{{last, 0}}, window{last, 0}},
		{[]window{{0, 0}}, window{0, 0}},
		{[]window{{3, 9}, {4, 8}}, window{4, 8}},
		{[]window{{4, 8}, {3, 9}}, window{4, 8}},
		{[]window{{3, 8}, {4, 9}}, window{4, 8}},
		{[]window{{4, 9}, {3, 8}}, window{4, 8}},
		{[]window{{4, 8}, {4, 8}}, window{4, 8}},
		{[]window{{0, last}, {5, 5}}, window{5, 5}},
		{[]window{{5, 5}, {0, last}}, window{5, 5}},
		{[]window{{0, last}, {0, last}}, window{0, last}},
		{[]window{{0, 5}, {5, last}}, window{5, 5}},
		{[]window{{0, 4}, {5, last}}, window{5, 4}},
		{[]window{{5, last}, {0, 4}}, window{5, 4}},
		{[]window{{0, last}, {last, last}, {0, 0}}, window{last, 0}},
		{[]window{{0, last}, {7, 3}}, window{7, 3}},
		{[]window{{5, 5}, {7, 3}}, window{7, 3}},
		{[]window{{7, 3}, {5, 5}}, window{7, 3}},
		{[]window{{1, 90}, {2, 80}, {3, 70}, {4, 60}}, window{4, 60}},
		{[]window{{4, 60}, {3, 70}, {2, 80}, {1, 90}}, window{4, 60}},
		{[]window{{1, 60}, {4, 90}, {2, 70}, {3, 80}}, window{4, 60}},
		{[]window{{1 << 31, last}, {1, last - 1}, {1<<31 - 1, last - 2}}, window{1 << 31, last - 2}},
	} {
		if got := meet(x.l); got != x.want {
			t.Errorf("Meet of %v is %v, want %v", x.l, got, x.want)
		}
	}
}

func TestMeetOfNoManifest(t *testing.T) {
	for _, list := range [][]api.Manifest{nil, {}, manifests([]window{{8, 2}})[:0]} {
		if from, to := label.Meet(3, 5, list...); from != 3 || to != 5 {
			t.Error(from, to)
		}
	}
	if from, to := label.Meet(0, last); from != 0 || to != last {
		t.Error(from, to)
	}
}

// TestMeetOfEachPlace has the latest From and the earliest To at each place.
func TestMeetOfEachPlace(t *testing.T) {
	for n := 1; n < 20; n++ {
		for i := range n {
			for j := range n {
				l := slices.Repeat([]window{{100, 200}}, n)
				l[i].from, l[j].to = 150, 160
				if got := meet(l); got != (window{150, 160}) {
					t.Errorf("the latest From at %d and the earliest To at %d of %d: %v", i, j, n, got)
				}
			}
		}
	}
}

func TestMeetInEachOrder(t *testing.T) {
	for _, l := range [][]window{
		{{1, 60}, {4, 90}, {2, 70}, {3, 80}, {0, 100}}, {{0, last}, {5, 9}, {9, last - 1}}, {{0, 4}, {5, 9}, {10, 14}},
		{{7, 7}, {7, 7}, {6, 8}, {0, last}}, {{last, last}, {0, 0}, {last, 0}, {0, last}},
	} {
		want := modelMeet(l)
		for _, order := range orders(l) {
			if got := meet(order); got != want {
				t.Errorf("Meet of %v is %v, want %v", order, got, want)
			}
		}
	}
}

func TestMeetOfDrawn(t *testing.T) {
	draw := draws()
	for range 5000 {
		l := make([]window, 1+draw()%12)
		for i := range l {
			l[i] = window{uint32(draw()), uint32(draw())}
		}
		if got := meet(l); got != modelMeet(l) {
			t.Errorf("Meet of %v is %v, want %v", l, got, modelMeet(l))
		}
	}
}

// checkWithin asks whether clocks at the edges of windows, and beside them, are within
// all of them just if they are within Meet.
func checkWithin(t *testing.T, l ...window) {
	t.Helper()
	m := meet(l)
	check := func(clock uint32) {
		all := true
		for _, w := range l {
			all = all && label.Holds(w.from, w.to, clock)
		}
		if got := label.Holds(m.from, m.to, clock); got != all {
			t.Errorf("%d is within all of %v: %v, and within %v: %v", clock, l, all, m, got)
		}
	}
	for _, w := range append(l, m) {
		// Before 0 comes the last moment: that is one to ask for as well.
		for _, edge := range []uint32{w.from, w.to} {
			check(edge - 1)
			check(edge)
			check(edge + 1)
		}
	}
}

func TestWithin(t *testing.T) {
	edges := []uint32{0, 1, 2, 5, last - 1, last}
	var windows []window
	for _, from := range edges {
		for _, to := range edges {
			windows = append(windows, window{from, to})
		}
	}
	for _, a := range windows {
		checkWithin(t, a)
		for _, b := range windows {
			checkWithin(t, a, b)
			for _, c := range windows {
				checkWithin(t, a, b, c)
			}
		}
	}
}

func TestWithinOfDrawn(t *testing.T) {
	draw := draws()
	for range 5000 {
		l := make([]window, 1+draw()%6)
		for i := range l {
			// The first half and the second one, so that many of them meet.
			l[i] = window{uint32(draw()) / 2, last - uint32(draw())/2}
		}
		checkWithin(t, l...)
	}
}

// TestMeetOfSlice hands in a part of a list, of which the rest must not be looked at.
func TestMeetOfSlice(t *testing.T) {
	windows := []window{{900, 901}, {10, 90}, {30, 80}, {20, 70}, {902, 903}}
	whole := manifests(windows)
	kept := slices.Clone(whole)
	for from := range len(whole) + 1 {
		for to := from; to <= len(whole); to++ {
			want := modelMeet(append([]window{{5, 95}}, windows[from:to]...))
			for _, part := range [][]api.Manifest{whole[from:to], whole[from:to:to]} {
				if f, l := label.Meet(5, 95, part...); f != want.from || l != want.to {
					t.Errorf("Meet of %v is %d, %d", windows[from:to], f, l)
				}
			}
		}
	}
	if !reflect.DeepEqual(whole, kept) {
		t.Errorf("%v became %v", kept, whole)
	}
}

// TestMeetKeepsNothing changes what was handed in, after which more is within.
func TestMeetKeepsNothing(t *testing.T) {
	m := manifests([]window{{5, 8}, {6, 7}})
	if from, to := label.Meet(0, 9, m...); from != 6 || to != 7 {
		t.Error(from, to)
	}
	m[1] = window{1, 9}.manifest()
	if from, to := label.Meet(0, 9, m...); from != 5 || to != 8 {
		t.Error(from, to)
	}
	if from, to := label.Meet(0, 9); from != 0 || to != 9 {
		t.Error(from, to)
	}
}
