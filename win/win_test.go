package win

import (
	"math"
	"slices"
	"testing"

	"shelfmark/api"
)

const (
	least    = math.MinInt64
	greatest = math.MaxInt64
)

// plainRows are the windows of all heights, height by height: the segments one by one, and then always two neighbours put together, till one is all; none, if there may be no such slots.
func plainRows(seg, size int) [][][2]int {
	if !slices.Contains([]int{4, 8, 16, 32, 64}, seg) || size < 1 || size > 65536 {
		return nil
	}
	var row [][2]int
	for from := 0; from < size; from += seg {
		row = append(row, [2]int{from, from + seg})
	}
	if row[len(row)-1][1] != size {
		return nil
	}
	rows := [][][2]int{row}
	for len(row) > 1 {
		if len(row)%2 == 1 {
			return nil
		}
		var next [][2]int
		for i := 0; i < len(row); i += 2 {
			next = append(next, [2]int{row[i][0], row[i+1][1]})
		}
		row = next
		rows = append(rows, row)
	}
	return rows
}

func holds(w [2]int, at int) bool { return w[0] <= at && at < w[1] }

// plainAround is the window of a row that has a slot.
func plainAround(row [][2]int, at int) [2]int {
	for _, w := range row {
		if holds(w, at) {
			return w
		}
	}
	panic("no window has the slot")
}

func plainPath(rows [][][2]int, at int) [][2]int {
	var path [][2]int
	for _, row := range rows {
		path = append(path, plainAround(row, at))
	}
	return path
}

func plainMeet(rows [][][2]int, a, b int) int {
	for h, row := range rows {
		if holds(plainAround(row, a), b) {
			return h
		}
	}
	panic("no window has both slots")
}

func wantHigh(t *testing.T, seg, size, want int, wantErr api.Errno) {
	t.Helper()
	if h, e := High(seg, size); h != want || e != wantErr {
		t.Errorf("High(%d, %d) = %d, %d; want %d, %d", seg, size, h, int(e), want, int(wantErr))
	}
}

func wantAround(t *testing.T, seg, size, h, at int, want [2]int, wantErr api.Errno) {
	t.Helper()
	if from, to, e := Around(seg, size, h, at); from != want[0] || to != want[1] || e != wantErr {
		t.Errorf("Around(%d, %d, %d, %d) = %d, %d, %d; want %v, %d", seg, size, h, at, from, to, int(e), want, int(wantErr))
	}
}

func wantPath(t *testing.T, seg, size, at int, want [][2]int, wantErr api.Errno) {
	t.Helper()
	if l, e := Path(seg, size, at); !slices.Equal(l, want) || e != wantErr {
		t.Errorf("Path(%d, %d, %d) = %v, %d; want %v, %d", seg, size, at, l, int(e), want, int(wantErr))
	}
}

func wantRow(t *testing.T, seg, size, h int, want [][2]int, wantErr api.Errno) {
	t.Helper()
	if l, e := Row(seg, size, h); !slices.Equal(l, want) || e != wantErr {
		t.Errorf("Row(%d, %d, %d): %d windows, %d; want %d, %d", seg, size, h, len(l), int(e), len(want), int(wantErr))
	}
}

func wantMeet(t *testing.T, seg, size, a, b, want int, wantErr api.Errno) {
	t.Helper()
	if h, e := Meet(seg, size, a, b); h != want || e != wantErr {
		t.Errorf("Meet(%d, %d, %d, %d) = %d, %d; want %d, %d", seg, size, a, b, h, int(e), want, int(wantErr))
	}
}

// wantRefused asks all calls with slots that may not be.
func wantRefused(t *testing.T, seg, size, h, a, b int) {
	t.Helper()
	wantHigh(t, seg, size, 0, api.ErrArg)
	wantAround(t, seg, size, h, a, [2]int{}, api.ErrArg)
	wantPath(t, seg, size, a, nil, api.ErrArg)
	wantRow(t, seg, size, h, nil, api.ErrArg)
	wantMeet(t, seg, size, a, b, 0, api.ErrArg)
}

// shape is slots that may be.
type shape struct{ seg, size int }

// shapes are all slots that may be.
func shapes() []shape {
	var l []shape
	for seg := api.MinSeg; seg <= api.MaxSeg; seg *= 2 {
		for size := seg; size <= api.MaxSlots; size *= 2 {
			l = append(l, shape{seg, size})
		}
	}
	return l
}

// shapesTo are those of at most so many slots.
func shapesTo(size int) []shape {
	return slices.DeleteFunc(shapes(), func(s shape) bool { return s.size > size })
}

// edges are slots at the windows' edges, and one ahead of them, and the first and the last one.
func edges(s shape) []int {
	l := []int{0, 1, s.seg - 1, s.size - s.seg, s.size - 2, s.size - 1}
	for width := s.seg; width < s.size; width *= 2 {
		l = append(l, width-1, width, width+1, s.size-width-1, s.size-width, s.size/2-1, s.size/2)
	}
	slices.Sort(l)
	return slices.Compact(l)
}

// slotsOf are all slots of a small shape, and the edges of a great one.
func slotsOf(s shape) []int {
	if s.size > 512 {
		return edges(s)
	}
	l := make([]int, s.size)
	for at := range l {
		l[at] = at
	}
	return l
}

// outside are numbers that are no slots.
func outside(s shape) []int {
	return []int{least, least + 1, -1 << 32, -s.size, -s.seg, -2, -1, s.size, s.size + 1, s.size + s.seg, 2 * s.size, 1 << 17, 1 << 32, 1<<32 + 1, greatest - 1, greatest}
}

// noHeights are numbers that are no heights up to top.
func noHeights(top int) []int {
	return []int{least, least + 1, -1 << 32, -64, -2, -1, top + 1, top + 2, 16, 60, 61, 62, 63, 64, 65, 1 << 32, greatest - 1, greatest}
}

func TestExamples(t *testing.T) {
	wantHigh(t, 4, 16, 2, api.OK)
	wantAround(t, 4, 16, 0, 9, [2]int{8, 12}, api.OK)
	wantAround(t, 4, 16, 1, 9, [2]int{8, 16}, api.OK)
	wantAround(t, 4, 16, 2, 9, [2]int{0, 16}, api.OK)
	wantPath(t, 4, 16, 9, [][2]int{{8, 12}, {8, 16}, {0, 16}}, api.OK)
	wantMeet(t, 4, 16, 3, 4, 1, api.OK)
	wantMeet(t, 4, 16, 7, 8, 2, api.OK)
}

func TestByNumber(t *testing.T) {
	wantHigh(t, 4, 4, 0, api.OK)
	wantHigh(t, 64, 64, 0, api.OK)
	wantHigh(t, 4, 65536, 14, api.OK)
	wantHigh(t, 64, 65536, 10, api.OK)
	wantAround(t, 64, 65536, 10, 65535, [2]int{0, 65536}, api.OK)
	wantAround(t, 64, 65536, 0, 65535, [2]int{65472, 65536}, api.OK)
	wantAround(t, 8, 64, 1, 15, [2]int{0, 16}, api.OK)
	wantAround(t, 8, 64, 1, 16, [2]int{16, 32}, api.OK)
	wantPath(t, 16, 64, 32, [][2]int{{32, 48}, {32, 64}, {0, 64}}, api.OK)
	wantPath(t, 64, 64, 0, [][2]int{{0, 64}}, api.OK)
	wantRow(t, 8, 32, 0, [][2]int{{0, 8}, {8, 16}, {16, 24}, {24, 32}}, api.OK)
	wantRow(t, 8, 32, 1, [][2]int{{0, 16}, {16, 32}}, api.OK)
	wantRow(t, 8, 32, 2, [][2]int{{0, 32}}, api.OK)
	wantRow(t, 4, 4, 0, [][2]int{{0, 4}}, api.OK)
	wantMeet(t, 4, 4, 0, 3, 0, api.OK)
	wantMeet(t, 4, 65536, 0, 65535, 14, api.OK)
	wantMeet(t, 4, 65536, 65535, 0, 14, api.OK)
	wantMeet(t, 4, 65536, 32767, 32768, 14, api.OK)
	wantMeet(t, 4, 65536, 32768, 49151, 12, api.OK)
	wantMeet(t, 4, 65536, 40000, 40000, 0, api.OK)
}

// P6.1: all slots that may be have their height.
func TestHigh(t *testing.T) {
	for _, s := range shapes() {
		wantHigh(t, s.seg, s.size, len(plainRows(s.seg, s.size))-1, api.OK)
	}
	if len(shapes()) != 15+14+13+12+11 {
		t.Errorf("%d shapes", len(shapes()))
	}
}

// P6.1: each height, slots all over, at edges and one ahead of them.
func TestAround(t *testing.T) {
	for _, s := range shapes() {
		for h, row := range plainRows(s.seg, s.size) {
			for _, at := range slotsOf(s) {
				wantAround(t, s.seg, s.size, h, at, plainAround(row, at), api.OK)
			}
		}
	}
}

// P6.1: the whole path of each slot.
func TestPath(t *testing.T) {
	for _, s := range shapes() {
		rows := plainRows(s.seg, s.size)
		for _, at := range slotsOf(s) {
			wantPath(t, s.seg, s.size, at, plainPath(rows, at), api.OK)
		}
	}
}

// P6.2: each height, that of segments and that of all among them.
func TestRow(t *testing.T) {
	for _, s := range shapes() {
		for h, row := range plainRows(s.seg, s.size) {
			wantRow(t, s.seg, s.size, h, row, api.OK)
		}
	}
}

// P6.2: all two slots of small shapes, either way round, and each with itself.
func TestMeet(t *testing.T) {
	for _, s := range shapesTo(128) {
		rows := plainRows(s.seg, s.size)
		for a := range s.size {
			for b := range s.size {
				wantMeet(t, s.seg, s.size, a, b, plainMeet(rows, a, b), api.OK)
			}
		}
	}
}

// P6.2: edges of great shapes.
func TestMeetAtEdges(t *testing.T) {
	for _, s := range shapes() {
		rows := plainRows(s.seg, s.size)
		l := edges(s)
		if s.size > 1024 {
			l = []int{0, 1, s.seg - 1, s.seg, s.size/4 - 1, s.size / 4, s.size/2 - 1, s.size / 2, s.size - s.seg - 1, s.size - s.seg, s.size - 1}
		}
		for _, a := range l {
			for _, b := range l {
				wantMeet(t, s.seg, s.size, a, b, plainMeet(rows, a, b), api.OK)
			}
		}
	}
}

// P6.1, P6.2: segments and sizes around all that may be; those that may not be are refused by all calls, whatever else is handed in.
func TestShapes(t *testing.T) {
	for seg := -9; seg <= 130; seg++ {
		for size := -130; size <= 300; size++ {
			rows := plainRows(seg, size)
			if len(rows) > 0 {
				wantHigh(t, seg, size, len(rows)-1, api.OK)
				continue
			}
			wantRefused(t, seg, size, 0, 0, 0)
			wantRefused(t, seg, size, 1, size-1, 0)
			wantRefused(t, seg, size, -1, -1, -1)
		}
	}
}

// P6.1, P6.2: the segments and sizes that are named, each with each, the least and the greatest number among them.
func TestNamedShapes(t *testing.T) {
	segs := []int{least, least + 1, -64, -8, -4, -1, 0, 1, 2, 3, 4, 5, 6, 12, 32, 48, 63, 64, 65, 96, 128, 256, 65536, 1 << 32, 1<<32 + 4, 1 << 62, greatest - 1, greatest}
	for _, seg := range segs {
		sizes := []int{least, least + 4, -65536, -64, -16, -4, -1, 0, 1, 2, 3, 4, 16, 64, 12, 48, 192, 320, 65280, 65472, 65532, 65535, 65536, 65537, 65540, 65600, 98304, 131072, 1 << 32, 1<<32 + 64, 1 << 61, 1 << 62, greatest - 3, greatest}
		sizes = append(sizes, seg, -seg, seg-1, seg+1, seg/2, 2*seg, 3*seg, 5*seg, 6*seg, 7*seg, 4*seg+1, 4*seg-1, 1024*seg, 1025*seg)
		for _, size := range sizes {
			rows := plainRows(seg, size)
			if len(rows) > 0 {
				wantHigh(t, seg, size, len(rows)-1, api.OK)
				continue
			}
			for _, n := range []int{least, -1, 0, 1, 3, seg, size - 1, size, greatest} {
				wantRefused(t, seg, size, n, n, 0)
				wantRefused(t, seg, size, 0, n, n)
			}
		}
	}
}

// P6.1, P6.2: heights beyond that of all, and below 0, wherever the slot.
func TestHeightsRefused(t *testing.T) {
	for _, s := range shapes() {
		top := len(plainRows(s.seg, s.size)) - 1
		for _, h := range noHeights(top) {
			wantRow(t, s.seg, s.size, h, nil, api.ErrArg)
			for _, at := range []int{0, s.size / 2, s.size - 1, -1, s.size, least, greatest} {
				wantAround(t, s.seg, s.size, h, at, [2]int{}, api.ErrArg)
			}
		}
	}
}

// P6.1, P6.2: what is no slot, at each height, and on either side of Meet.
func TestSlotsRefused(t *testing.T) {
	for _, s := range shapes() {
		top := len(plainRows(s.seg, s.size)) - 1
		for _, at := range outside(s) {
			for h := range top + 1 {
				wantAround(t, s.seg, s.size, h, at, [2]int{}, api.ErrArg)
			}
			wantPath(t, s.seg, s.size, at, nil, api.ErrArg)
			for _, other := range []int{0, s.size - 1, at, -1, s.size} {
				wantMeet(t, s.seg, s.size, at, other, 0, api.ErrArg)
				wantMeet(t, s.seg, s.size, other, at, 0, api.ErrArg)
			}
		}
	}
}

// spoil writes into all of a list, and into the room behind it.
func spoil(l [][2]int) {
	l = l[:cap(l)]
	for i := range l {
		l[i] = [2]int{-7, -7}
	}
}

// P6.3: a list that is written into leaves others, answered ahead and behind, as they were.
func TestNewMemory(t *testing.T) {
	for _, s := range shapesTo(2048) {
		rows := plainRows(s.seg, s.size)
		for _, at := range []int{0, s.size / 2, s.size - 1} {
			first, _ := Path(s.seg, s.size, at)
			second, _ := Path(s.seg, s.size, at)
			spoil(first)
			if !slices.Equal(second, plainPath(rows, at)) {
				t.Errorf("Path(%d, %d, %d) answers shared memory", s.seg, s.size, at)
			}
			wantPath(t, s.seg, s.size, at, plainPath(rows, at), api.OK)
		}
		for h, row := range rows {
			first, _ := Row(s.seg, s.size, h)
			second, _ := Row(s.seg, s.size, h)
			path, _ := Path(s.seg, s.size, 0)
			spoil(first)
			if !slices.Equal(second, row) || !slices.Equal(path, plainPath(rows, 0)) {
				t.Errorf("Row(%d, %d, %d) answers shared memory", s.seg, s.size, h)
			}
			wantRow(t, s.seg, s.size, h, row, api.OK)
		}
	}
}

func mustRow(t *testing.T, s shape, h int) [][2]int {
	t.Helper()
	row, e := Row(s.seg, s.size, h)
	if e != api.OK {
		t.Fatalf("Row(%d, %d, %d): %d", s.seg, s.size, h, int(e))
	}
	return row
}

func mustHigh(t *testing.T, s shape) int {
	t.Helper()
	top, e := High(s.seg, s.size)
	if e != api.OK {
		t.Fatalf("High(%d, %d): %d", s.seg, s.size, int(e))
	}
	return top
}

func mustAround(t *testing.T, s shape, h, at int) [2]int {
	t.Helper()
	from, to, e := Around(s.seg, s.size, h, at)
	if e != api.OK {
		t.Fatalf("Around(%d, %d, %d, %d): %d", s.seg, s.size, h, at, int(e))
	}
	return [2]int{from, to}
}

// P6.4: each window but that of all is one of the two halves of the next one around it.
func TestHalves(t *testing.T) {
	for _, s := range shapes() {
		top := mustHigh(t, s)
		for h := range top {
			for _, w := range mustRow(t, s, h) {
				around := mustAround(t, s, h+1, w[0])
				middle := (around[0] + around[1]) / 2
				if w != [2]int{around[0], middle} && w != [2]int{middle, around[1]} {
					t.Fatalf("of %v: %v of height %d is no half of %v", s, w, h, around)
				}
			}
		}
		if all := mustRow(t, s, top); !slices.Equal(all, [][2]int{{0, s.size}}) {
			t.Errorf("of %v: the windows of height %d are %v", s, top, all)
		}
	}
}

// P6.4: windows of a height have each slot once.
func TestEachSlotOnce(t *testing.T) {
	for _, s := range shapes() {
		for h := range mustHigh(t, s) + 1 {
			times := make([]int, s.size)
			for _, w := range mustRow(t, s, h) {
				for at := w[0]; at < w[1]; at++ {
					times[at]++
				}
			}
			for at, n := range times {
				if n != 1 {
					t.Fatalf("of %v: windows of height %d have slot %d %d times", s, h, at, n)
				}
			}
		}
	}
}

// P6.4: two slots have one window of a height just from the height of Meet on; Path, Row and Around tell the same windows.
func TestFromMeetOn(t *testing.T) {
	for _, s := range shapes() {
		top := mustHigh(t, s)
		l := edges(s)
		for i, a := range l {
			for _, b := range []int{a, l[(i*7+1)%len(l)], l[(i*5+3)%len(l)], l[0], l[len(l)-1]} {
				meet, e := Meet(s.seg, s.size, a, b)
				if e != api.OK {
					t.Fatalf("Meet(%d, %d, %d, %d): %d", s.seg, s.size, a, b, int(e))
				}
				for h := range top + 1 {
					if one := mustAround(t, s, h, a) == mustAround(t, s, h, b); one != (h >= meet) {
						t.Fatalf("of %v: %d and %d meet at height %d; at %d: %v", s, a, b, meet, h, one)
					}
				}
			}
		}
	}
}

// P6.1, P6.2: a path has, height by height, the window of the row that has the slot.
func TestPathsAndRows(t *testing.T) {
	for _, s := range shapes() {
		top := mustHigh(t, s)
		for _, at := range edges(s) {
			path, e := Path(s.seg, s.size, at)
			if e != api.OK || len(path) != top+1 {
				t.Fatalf("Path(%d, %d, %d): %d windows, %d", s.seg, s.size, at, len(path), int(e))
			}
			for h, w := range path {
				row := mustRow(t, s, h)
				if i := at * len(row) / s.size; w != row[i] || w != mustAround(t, s, h, at) || !holds(w, at) {
					t.Fatalf("of %v: the window of height %d around slot %d is %v on the path", s, h, at, w)
				}
			}
		}
	}
}
