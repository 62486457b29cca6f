package handle

import (
	"math"
	"slices"
	"testing"

	"shelfmark/api"
)

const (
	least    = math.MinInt
	greatest = math.MaxInt
	// lastGen is the generation that no number is given out in.
	lastGen = 2147483647
	most    = 65536
)

// cell is what a table says of a number.
type cell struct {
	gen, at int
}

// plain is a table told number by number.
type plain []cell

func (p plain) packed() api.Handles {
	var t api.Handles
	for _, c := range p {
		t.Gens = append(t.Gens, c.gen)
		t.Ats = append(t.Ats, c.at)
	}
	return t
}

// with is p with another cell, or one more behind all.
func (p plain) with(k int, c cell) plain {
	p = append(slices.Clone(p), cell{})
	p[k] = c
	return p[:max(k+1, len(p)-1)]
}

func (p plain) live() int {
	many := 0
	for _, c := range p {
		if c.at >= 0 {
			many++
		}
	}
	return many
}

// out are the handles that are given out, in order.
func (p plain) out() []api.Handle {
	var l []api.Handle
	for k, c := range p {
		if c.at >= 0 {
			l = append(l, api.Handle{Number: k, Gen: c.gen})
		}
	}
	return l
}

// find is where h is, and whether it is given out; told by going through all.
func (p plain) find(h api.Handle) (int, bool) {
	for k, c := range p {
		if c.at >= 0 && (api.Handle{Number: k, Gen: c.gen}) == h {
			return c.at, true
		}
	}
	return 0, false
}

// toldMake, toldSet and toldDrop are what the calls should answer.
func (p plain) toldMake(at int) (plain, api.Handle, api.Errno) {
	if at < 0 {
		return nil, api.Handle{}, api.ErrArg
	}
	for k, c := range p {
		if c.at == -1 && c.gen < lastGen {
			return p.with(k, cell{c.gen, at}), api.Handle{Number: k, Gen: c.gen}, api.OK
		}
	}
	if len(p) >= most {
		return nil, api.Handle{}, api.ErrFull
	}
	return p.with(len(p), cell{0, at}), api.Handle{Number: len(p)}, api.OK
}

func (p plain) toldSet(h api.Handle, at int) (plain, api.Errno) {
	if at < 0 {
		return nil, api.ErrArg
	}
	if _, is := p.find(h); !is {
		return nil, api.ErrHandle
	}
	return p.with(h.Number, cell{h.Gen, at}), api.OK
}

func (p plain) toldDrop(h api.Handle) (plain, api.Errno) {
	if _, is := p.find(h); !is {
		return nil, api.ErrHandle
	}
	return p.with(h.Number, cell{h.Gen + 1, -1}), api.OK
}

// alike tells whether all of a and b is the same.
func alike(a, b api.Handles) bool {
	return slices.Equal(a.Gens, b.Gens) && slices.Equal(a.Ats, b.Ats)
}

func mixer(seed uint64) func(below int) int {
	return func(below int) int {
		seed = seed*6364136223846793005 + 1442695040888963407
		return int(seed>>33) % below
	}
}

// goodCells are those that a number may have: free ones and others, at the ends of generations and of places.
func goodCells() []cell {
	return []cell{{0, -1}, {0, 0}, {1, -1}, {1, 5}, {lastGen - 1, -1}, {lastGen - 1, greatest}, {lastGen, -1}}
}

// smallTables are all those of up to three good cells.
func smallTables() []plain {
	l := []plain{nil}
	for from := 0; len(l[from]) < 3; from++ {
		for _, c := range goodCells() {
			l = append(l, l[from].with(len(l[from]), c))
		}
	}
	return l
}

// repeated is a table of n cells alike.
func repeated(n int, c cell) plain {
	return slices.Repeat(plain{c}, n)
}

// mixedTable is a table of n numbers: of so many in a hundred that are free, and so many in a hundred that are at one of the last generations.
func mixedTable(n, free, late int, next func(int) int) plain {
	p := repeated(n, cell{})
	for k := range p {
		c := cell{next(4), next(1000)}
		isFree, isLate := next(100) < free, next(100) < late
		if isLate {
			c.gen = lastGen - 1 - next(3)
		}
		if isFree {
			c.at = -1
		}
		if isFree && isLate {
			c.gen = lastGen - next(3)
		}
		p[k] = c
	}
	return p
}

// middleTables are mixed ones of many sizes.
func middleTables() []plain {
	next := mixer(14)
	var l []plain
	for _, n := range []int{4, 5, 8, 17, 63, 64, 65, 200} {
		for _, free := range []int{0, 3, 30, 100} {
			for _, late := range []int{0, 30, 100} {
				l = append(l, mixedTable(n, free, late, next))
			}
		}
	}
	return l
}

// greatTables are those of MaxSlots numbers, and of one less: all alike, and with another one at each end and between.
func greatTables() []plain {
	var l []plain
	for _, n := range []int{most - 1, most} {
		for _, c := range []cell{{0, 3}, {lastGen - 1, 0}, {lastGen, -1}, {2, -1}} {
			p := repeated(n, c)
			l = append(l, p)
			for _, k := range []int{0, n / 2, n - 1} {
				l = append(l, p.with(k, cell{7, -1}), p.with(k, cell{lastGen - 1, -1}), p.with(k, cell{9, 9}))
			}
		}
	}
	return append(l, mixedTable(most, 50, 50, mixer(5)))
}

// places are the edges of what a place may be.
func places() []int { return []int{0, 1, 7, greatest, -1, -2, least} }

// someNumbers are each of a few, and some of many, and those that are none of p.
func (p plain) someNumbers() []int {
	l := []int{least, -most, -2, -1, len(p), len(p) + 1, most, greatest}
	for k := range p {
		if k < 4 || k > len(p)-3 || k%23 == 5 && k < 200 || k == len(p)/2 {
			l = append(l, k)
		}
	}
	return l
}

// someHandles are those of some numbers: of the generation that they have, of those beside it, and of the edges.
func (p plain) someHandles() []api.Handle {
	gens := []int{least, -1, 0, 1, lastGen - 1, lastGen, lastGen + 1, greatest}
	var l []api.Handle
	for _, k := range p.someNumbers() {
		of := gens
		if k >= 0 && k < len(p) {
			of = append(slices.Clone(gens), p[k].gen-1, p[k].gen, p[k].gen+1)
		}
		for _, gen := range of {
			l = append(l, api.Handle{Number: k, Gen: gen})
		}
	}
	return l
}

// fewHandles are of each number one that is out, if it may be, and one that is not.
func (p plain) fewHandles() []api.Handle {
	l := []api.Handle{{Number: -1}, {Number: len(p)}}
	for _, k := range p.someNumbers() {
		if k >= 0 && k < len(p) {
			l = append(l, api.Handle{Number: k, Gen: p[k].gen}, api.Handle{Number: k, Gen: p[k].gen + 1})
		}
	}
	return l
}

func wantTable(t *testing.T, got api.Handles, e api.Errno, want plain, wantE api.Errno, what string, args ...any) {
	t.Helper()
	if e != wantE || !alike(got, want.packed()) {
		t.Errorf("%s%v: %d numbers, error %d; want %d, %d (short: %v, %v)", what, args, len(got.Gens), int(e), len(want), int(wantE), short(got), short(want.packed()))
	}
}

// short is a table's beginning.
func short(x api.Handles) api.Handles {
	return api.Handles{Gens: x.Gens[:min(len(x.Gens), 5)], Ats: x.Ats[:min(len(x.Ats), 5)]}
}

func wantMake(t *testing.T, p plain, x api.Handles, at int) {
	t.Helper()
	got, h, e := Make(x, at)
	want, wantH, wantE := p.toldMake(at)
	wantTable(t, got, e, want, wantE, "Make", short(x), at)
	if h != wantH {
		t.Errorf("Make of %v at %d: %v; want %v", short(x), at, h, wantH)
	}
}

func wantFind(t *testing.T, p plain, x api.Handles, h api.Handle) {
	t.Helper()
	want, is := p.find(h)
	got, e := Find(x, h)
	if got != want || (e == api.OK) != is || !is && e != api.ErrHandle {
		t.Errorf("Find of %v in %v: %d, error %d; want %d, %v", h, short(x), got, int(e), want, is)
	}
}

func wantSet(t *testing.T, p plain, x api.Handles, h api.Handle, at int) {
	t.Helper()
	got, e := Set(x, h, at)
	want, wantE := p.toldSet(h, at)
	wantTable(t, got, e, want, wantE, "Set", short(x), h, at)
}

func wantDrop(t *testing.T, p plain, x api.Handles, h api.Handle) {
	t.Helper()
	got, e := Drop(x, h)
	want, wantE := p.toldDrop(h)
	wantTable(t, got, e, want, wantE, "Drop", short(x), h)
}

func wantLive(t *testing.T, p plain, x api.Handles) {
	t.Helper()
	if n, e := Live(x); n != p.live() || e != api.OK {
		t.Errorf("Live of %v: %d, error %d; want %d", short(x), n, int(e), p.live())
	}
}

func wantCheck(t *testing.T, x api.Handles, want api.Errno, what string, args ...any) {
	t.Helper()
	if e := Check(x); e != want {
		t.Errorf("Check of %s %v: %d; want %d", what, args, int(e), int(want))
	}
}

// wantRefused asks for ErrBad from each call, whatever else is asked, and for nothing beside it.
func wantRefused(t *testing.T, x api.Handles, what string, args ...any) {
	t.Helper()
	wantCheck(t, x, api.ErrBad, what, args...)
	if n, e := Live(x); n != 0 || e != api.ErrBad {
		t.Errorf("Live of %s %v: %d, error %d", what, args, n, int(e))
	}
	for _, at := range []int{0, -1, least} {
		got, h, e := Make(x, at)
		wantTable(t, got, e, nil, api.ErrBad, "Make", what, args, at)
		if h != (api.Handle{}) {
			t.Errorf("Make of %s %v: %v", what, args, h)
		}
	}
	last := len(x.Gens) - 1
	handles := []api.Handle{{}, {Number: -1}, {Number: 1, Gen: 1}, {Number: last}, {Number: last + 1}, {Number: len(x.Ats)}, {Number: least, Gen: least}}
	if last >= 0 {
		handles = append(handles, api.Handle{Gen: x.Gens[0]}, api.Handle{Number: last, Gen: x.Gens[last]})
	}
	for _, h := range handles {
		if at, e := Find(x, h); at != 0 || e != api.ErrBad {
			t.Errorf("Find of %v in %s %v: %d, error %d", h, what, args, at, int(e))
		}
		got, e := Drop(x, h)
		wantTable(t, got, e, nil, api.ErrBad, "Drop", what, args, h)
		for _, at := range []int{0, -1, least} {
			got, e = Set(x, h, at)
			wantTable(t, got, e, nil, api.ErrBad, "Set", what, args, h, at)
		}
	}
}

// roomy is x in lists with room behind them, in which something stands.
func roomy(x api.Handles) api.Handles {
	x.Gens = append(slices.Clone(x.Gens), 0, 1, lastGen, least, 7)[:len(x.Gens)]
	x.Ats = append(slices.Clone(x.Ats), -1, 1, 2, least, greatest)[:len(x.Ats)]
	return x
}

// whole is x with the room behind its lists.
func whole(x api.Handles) api.Handles {
	return api.Handles{Gens: x.Gens[:cap(x.Gens)], Ats: x.Ats[:cap(x.Ats)]}
}

// anew is x in new memory, told without Twin.
func anew(x api.Handles) api.Handles {
	return api.Handles{Gens: append([]int{}, x.Gens...), Ats: append([]int{}, x.Ats...)}
}

// turnAll turns each thing of a list, and those of the room behind it.
func turnAll(l []int) {
	l = l[:cap(l)]
	for i := range l {
		l[i] ^= -1
	}
}
