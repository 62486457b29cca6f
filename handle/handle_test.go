package handle

import (
	"slices"
	"testing"

	"shelfmark/api"
)

func TestExamples(t *testing.T) {
	x, h, e := Make(api.Handles{}, 3)
	first := h
	wantTable(t, x, e, plain{{0, 3}}, api.OK, "Make at 3")
	if h != (api.Handle{Number: 0, Gen: 0}) {
		t.Errorf("Make at 3: %v", h)
	}
	x, e = Drop(x, h)
	wantTable(t, x, e, plain{{1, -1}}, api.OK, "Drop")
	x, h, e = Make(x, 5)
	wantTable(t, x, e, plain{{1, 5}}, api.OK, "Make at 5")
	if h != (api.Handle{Number: 0, Gen: 1}) {
		t.Errorf("Make at 5: %v", h)
	}
	if at, e := Find(x, first); at != 0 || e != api.ErrHandle {
		t.Errorf("Find of the first: %d, %d", at, int(e))
	}
	if at, e := Find(x, h); at != 5 || e != api.OK {
		t.Errorf("Find of the second: %d, %d", at, int(e))
	}
}

// mayBe tells whether a number may say that, as the words say it.
func mayBe(c cell) bool {
	if c.at == -1 {
		return c.gen >= 0 && c.gen <= lastGen
	}
	return c.at >= 0 && c.gen >= 0 && c.gen <= lastGen-1
}

// anyCells are those of all edges, those that may be and others.
func anyCells() []cell {
	var l []cell
	for _, gen := range []int{least, -lastGen, -1, 0, 1, lastGen - 1, lastGen, lastGen + 1, 1 << 32, greatest} {
		for _, at := range []int{least, -2, -1, 0, 1, most, greatest} {
			l = append(l, cell{gen, at})
		}
	}
	return l
}

// P14.1: tables of one and of two numbers that say anything: ErrBad from all calls, unless both may be.
func TestCheckOfAnyCells(t *testing.T) {
	for _, a := range anyCells() {
		if mayBe(a) {
			wantCheck(t, plain{a}.packed(), api.OK, "one", a)
		} else {
			wantRefused(t, plain{a}.packed(), "one", a)
		}
		for _, b := range anyCells() {
			if mayBe(a) && mayBe(b) {
				wantCheck(t, plain{a, b}.packed(), api.OK, "two", a, b)
			} else {
				wantRefused(t, plain{a, b}.packed(), "two", a, b)
			}
		}
	}
}

// P14.1: a number that may not be, at each place of a table, or some.
func TestCheckOfOneCell(t *testing.T) {
	for _, p := range append(middleTables(), repeated(most, cell{0, 0}), repeated(most, cell{lastGen, -1})) {
		wantCheck(t, p.packed(), api.OK, "a table", len(p))
		for _, k := range []int{0, 1, len(p) / 3, len(p) / 2, len(p) - 2, len(p) - 1} {
			for _, c := range []cell{{-1, -1}, {-1, 0}, {lastGen + 1, -1}, {lastGen, 0}, {lastGen, greatest}, {0, -2}, {0, least}, {least, -1}, {greatest, 5}} {
				wantCheck(t, p.with(k, c).packed(), api.ErrBad, "a number", k, c)
			}
			for _, c := range goodCells() {
				wantCheck(t, p.with(k, c).packed(), api.OK, "a number", k, c)
			}
		}
	}
}

// P14.1, all: lists of other lengths, told ahead of all that calls are asked.
func TestLengthsRefused(t *testing.T) {
	for _, p := range append(smallTables(), middleTables()...) {
		x := p.packed()
		for _, c := range []cell{{0, -1}, {0, 0}, {lastGen, -1}} {
			wantRefused(t, api.Handles{Gens: append(slices.Clone(x.Gens), c.gen), Ats: x.Ats}, "a generation more", len(p), c)
			wantRefused(t, api.Handles{Gens: x.Gens, Ats: append(slices.Clone(x.Ats), c.at)}, "a place more", len(p), c)
		}
		if n := len(p); n > 0 {
			wantRefused(t, api.Handles{Gens: x.Gens[:n-1], Ats: x.Ats}, "a generation less", n)
			wantRefused(t, api.Handles{Gens: x.Gens, Ats: x.Ats[:n-1]}, "a place less", n)
			wantRefused(t, api.Handles{Ats: x.Ats}, "no generations", n)
			wantRefused(t, api.Handles{Gens: x.Gens}, "no places", n)
			wantRefused(t, api.Handles{Gens: x.Gens, Ats: []int{}}, "no places", n)
		}
	}
}

// P14.1, all: MaxSlots numbers may be, one more may not, whatever they say.
func TestTooManyRefused(t *testing.T) {
	for _, c := range goodCells() {
		wantCheck(t, repeated(most, c).packed(), api.OK, "MaxSlots", c)
		wantRefused(t, repeated(most+1, c).packed(), "one more", c)
	}
	wantRefused(t, repeated(most+1, cell{lastGen, -1}).with(3, cell{0, -1}).packed(), "one more, with one free")
	wantRefused(t, repeated(2*most, cell{0, 1}).packed(), "twice as many")
	free := repeated(most, cell{0, -1}).packed()
	wantRefused(t, api.Handles{Gens: free.Gens, Ats: append(free.Ats, -1)}, "a place more than MaxSlots")
	wantRefused(t, api.Handles{Gens: append(free.Gens, 0), Ats: free.Ats[:most]}, "a generation more than MaxSlots")
}

// P14.1: Same of tables, whether they may be or not: each against each of a few, and against itself with one thing turned.
func TestSame(t *testing.T) {
	tables := []api.Handles{{}, {Gens: []int{0}}, {Ats: []int{0}}, {Gens: []int{0, 0}}, {Gens: []int{0, 0}, Ats: []int{0}}, {Gens: []int{0}, Ats: []int{0, 0}}}
	for _, p := range smallTables() {
		tables = append(tables, p.packed())
	}
	for _, c := range anyCells() {
		tables = append(tables, plain{c}.packed())
	}
	for _, a := range tables {
		for _, b := range tables {
			if got, want := Same(a, b), alike(a, b); got != want {
				t.Errorf("Same of %v, %v: %v", a, b, got)
			}
		}
	}
	for _, p := range append(middleTables(), greatTables()[:3]...) {
		a := p.packed()
		for _, k := range []int{0, len(p) / 2, len(p) - 1} {
			for _, c := range []cell{{p[k].gen + 1, p[k].at}, {p[k].gen, p[k].at - 1}, {p[k].at, p[k].gen}} {
				b := p.with(k, c).packed()
				if got, want := Same(a, b), c == p[k]; got != want || Same(b, a) != want {
					t.Errorf("Same with %v for %v at %d: %v", c, p[k], k, got)
				}
			}
		}
		if !Same(a, p.packed()) || !Same(a, roomy(a)) {
			t.Errorf("not the same: %d numbers", len(p))
		}
		if Same(a, p[:len(p)-1].packed()) || Same(p[1:].packed(), a) {
			t.Errorf("the same with one less: %d numbers", len(p))
		}
	}
	if none := (api.Handles{Gens: []int{}, Ats: []int{}}); !Same(api.Handles{}, none) || !Same(none, api.Handles{}) {
		t.Error("lists without elements and none are not the same")
	}
}

// P14.1: Twin of tables, whether they may be or not.
func TestTwin(t *testing.T) {
	tables := []api.Handles{{}, {Gens: []int{}}, {Gens: []int{least, 5}}, {Ats: []int{-7}}, {Gens: []int{1, 2, 3}, Ats: []int{4}}, repeated(most+9, cell{-1, -5}).packed()}
	for _, p := range slices.Concat(smallTables(), middleTables(), greatTables()[:9]) {
		tables = append(tables, p.packed())
	}
	for _, c := range anyCells() {
		tables = append(tables, plain{c, c}.packed())
	}
	for _, x := range tables {
		x = roomy(x)
		before := anew(whole(x))
		twin := Twin(x)
		if !alike(twin, x) {
			t.Errorf("Twin of %v: %v", short(x), short(twin))
		}
		wantApart(t, x, twin, "Twin")
		if !alike(whole(x), before) {
			t.Errorf("Twin of %v turned it", short(x))
		}
	}
}

// wantApart asks that what was answered shares no memory with what was handed in, and its two lists share none.
func wantApart(t *testing.T, x, got api.Handles, what string) {
	t.Helper()
	before, ats := anew(whole(x)), slices.Clone(got.Ats)
	turnAll(got.Gens)
	if !slices.Equal(got.Ats, ats) {
		t.Errorf("%s: the lists of an answer share memory", what)
	}
	turnAll(got.Ats)
	if !alike(whole(x), before) {
		t.Errorf("%s: an answer shares memory with what was handed in", what)
	}
}

// P14.2: Live counts the numbers that are not free.
func TestLive(t *testing.T) {
	for _, p := range slices.Concat(smallTables(), middleTables(), greatTables()) {
		wantLive(t, p, p.packed())
	}
}

// P14.2: Find of handles that are given out, and of others: below, the last, behind all, of other generations, free.
func TestFind(t *testing.T) {
	for _, p := range slices.Concat(smallTables(), middleTables()) {
		x := p.packed()
		for _, h := range p.someHandles() {
			wantFind(t, p, x, h)
		}
		for _, h := range p.out() {
			if at, e := Find(x, h); at != p[h.Number].at || e != api.OK {
				t.Errorf("Find of %v: %d, error %d; want %d", h, at, int(e), p[h.Number].at)
			}
		}
	}
	for _, p := range greatTables() {
		x := p.packed()
		for _, h := range p.fewHandles() {
			wantFind(t, p, x, h)
		}
	}
}

// P14.3: Make: the least number that is free and not at MaxGen; a new one; none, where there are MaxSlots.
func TestMake(t *testing.T) {
	for _, p := range slices.Concat(smallTables(), middleTables()) {
		x := p.packed()
		for _, at := range places() {
			wantMake(t, p, x, at)
		}
	}
	for _, p := range greatTables() {
		x := p.packed()
		for _, at := range []int{-1, 0, greatest} {
			wantMake(t, p, x, at)
		}
	}
}

// P14.3: the edges of Make by themselves.
func TestMakeEdges(t *testing.T) {
	for _, one := range []struct {
		why  string
		p    plain
		want plain
		h    api.Handle
		e    api.Errno
	}{
		{"none", plain{}, plain{{0, 7}}, api.Handle{}, api.OK},
		{"no number is free", plain{{2, 1}, {3, 1}}, plain{{2, 1}, {3, 1}, {0, 7}}, api.Handle{Number: 2}, api.OK},
		{"two are free", plain{{2, 1}, {3, -1}, {0, -1}}, plain{{2, 1}, {3, 7}, {0, -1}}, api.Handle{Number: 1, Gen: 3}, api.OK},
		{"a free one at the last", plain{{lastGen, -1}, {4, -1}}, plain{{lastGen, -1}, {4, 7}}, api.Handle{Number: 1, Gen: 4}, api.OK},
		{"free ones at the last alone", plain{{lastGen, -1}, {lastGen, -1}}, plain{{lastGen, -1}, {lastGen, -1}, {0, 7}}, api.Handle{Number: 2}, api.OK},
		{"a free one ahead of the last", plain{{lastGen - 1, -1}}, plain{{lastGen - 1, 7}}, api.Handle{Gen: lastGen - 1}, api.OK},
		{"one less than MaxSlots", repeated(most-1, cell{1, 1}), repeated(most-1, cell{1, 1}).with(most-1, cell{0, 7}), api.Handle{Number: most - 1}, api.OK},
		{"MaxSlots", repeated(most, cell{1, 1}), nil, api.Handle{}, api.ErrFull},
		{"MaxSlots at the last", repeated(most, cell{lastGen, -1}), nil, api.Handle{}, api.ErrFull},
		{"MaxSlots, one free", repeated(most, cell{1, 1}).with(most-1, cell{6, -1}), repeated(most, cell{1, 1}).with(most-1, cell{6, 7}), api.Handle{Number: most - 1, Gen: 6}, api.OK},
	} {
		got, h, e := Make(one.p.packed(), 7)
		wantTable(t, got, e, one.want, one.e, "Make", one.why)
		if h != one.h {
			t.Errorf("Make, %s: %v; want %v", one.why, h, one.h)
		}
	}
	full := repeated(most, cell{1, 1}).packed()
	got, h, e := Make(full, -1)
	wantTable(t, got, e, nil, api.ErrArg, "Make below 0 of a full table")
	if h != (api.Handle{}) {
		t.Errorf("Make below 0: %v", h)
	}
}

// P14.3: Set and Drop of handles that are given out, and of others; ErrArg ahead of ErrHandle.
func TestSetAndDrop(t *testing.T) {
	for _, p := range slices.Concat(smallTables(), middleTables()) {
		x := p.packed()
		for _, h := range p.someHandles() {
			wantDrop(t, p, x, h)
			for _, at := range places() {
				if len(p) < 9 || at < 2 {
					wantSet(t, p, x, h, at)
				}
			}
		}
	}
	for _, p := range greatTables() {
		x := p.packed()
		for _, h := range p.fewHandles() {
			wantDrop(t, p, x, h)
			wantSet(t, p, x, h, 0)
			wantSet(t, p, x, h, -1)
		}
	}
}

// P14.3: a number that is dropped in the last generation in which it may be out is never given out again.
func TestLastGeneration(t *testing.T) {
	x, e := Drop(plain{{5, 5}, {lastGen - 1, 3}}.packed(), api.Handle{Number: 1, Gen: lastGen - 1})
	wantTable(t, x, e, plain{{5, 5}, {lastGen, -1}}, api.OK, "Drop")
	for _, gen := range []int{lastGen - 1, lastGen, lastGen + 1} {
		wantFind(t, plain{{5, 5}, {lastGen, -1}}, x, api.Handle{Number: 1, Gen: gen})
		wantDrop(t, plain{{5, 5}, {lastGen, -1}}, x, api.Handle{Number: 1, Gen: gen})
	}
	y, h, e := Make(x, 4)
	wantTable(t, y, e, plain{{5, 5}, {lastGen, -1}, {0, 4}}, api.OK, "Make")
	if h != (api.Handle{Number: 2}) {
		t.Errorf("Make: %v", h)
	}
}

// call is one of a table that answers one, or what was asked, too.
type call struct {
	what string
	ask  func(x api.Handles) (api.Handles, api.Errno)
}

// calls are all of them, those that are refused among them.
func calls(p plain) []call {
	l := []call{
		{"Check", func(x api.Handles) (api.Handles, api.Errno) { return api.Handles{}, Check(x) }},
		{"Live", func(x api.Handles) (api.Handles, api.Errno) { _, e := Live(x); return api.Handles{}, e }},
		{"Twin", func(x api.Handles) (api.Handles, api.Errno) { return Twin(x), api.OK }},
		{"Same", func(x api.Handles) (api.Handles, api.Errno) { Same(x, x); return api.Handles{}, api.OK }},
		{"Make", func(x api.Handles) (api.Handles, api.Errno) { y, _, e := Make(x, 6); return y, e }},
		{"Make", func(x api.Handles) (api.Handles, api.Errno) { y, _, e := Make(x, -6); return y, e }},
	}
	for _, h := range p.fewHandles() {
		l = append(l,
			call{"Find", func(x api.Handles) (api.Handles, api.Errno) { _, e := Find(x, h); return api.Handles{}, e }},
			call{"Set", func(x api.Handles) (api.Handles, api.Errno) { return Set(x, h, 9) }},
			call{"Set", func(x api.Handles) (api.Handles, api.Errno) { return Set(x, h, -9) }},
			call{"Drop", func(x api.Handles) (api.Handles, api.Errno) { return Drop(x, h) }})
	}
	return l
}

// P14.4: what is handed in is only read, with the room behind it; what is answered is new memory; a call that is asked again answers the same.
func TestMemory(t *testing.T) {
	tables := slices.Concat(smallTables(), middleTables(), greatTables()[:4])
	tables = append(tables, plain{{-1, 0}}, plain{{0, -2}, {1, 1}}, repeated(most+1, cell{0, 1}))
	for _, p := range tables {
		for _, one := range calls(p) {
			x := roomy(p.packed())
			before := anew(whole(x))
			got, e := one.ask(x)
			if !alike(whole(x), before) {
				t.Fatalf("%s of %v turned it", one.what, short(p.packed()))
			}
			kept := anew(got)
			wantApart(t, x, got, one.what)
			again, f := one.ask(x)
			if e != f || !alike(again, kept) {
				t.Fatalf("%s of %v, asked again: %v, error %d; want %v, %d", one.what, short(x), short(again), int(f), short(kept), int(e))
			}
			turnAll(x.Gens)
			turnAll(x.Ats)
			if !alike(again, kept) {
				t.Fatalf("%s: what was handed in shares memory with an answer", one.what)
			}
		}
	}
}

// P14.4: answers share no memory with each other.
func TestAnswersApart(t *testing.T) {
	for _, p := range append(smallTables(), middleTables()...) {
		x := roomy(p.packed())
		var got, kept []api.Handles
		for _, one := range calls(p) {
			y, _ := one.ask(x)
			got, kept = append(got, y), append(kept, anew(y))
		}
		for i := range got {
			if !alike(got[i], kept[i]) {
				t.Fatalf("an answer of %v was turned by another one", short(x))
			}
			turnAll(got[i].Gens)
			turnAll(got[i].Ats)
		}
	}
}
