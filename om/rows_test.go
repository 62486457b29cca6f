package om

import (
	"cmp"
	"slices"
	"testing"

	"shelfmark/api"
)

// sample is a list, and a handle that is asked of it.
type sample struct {
	p plain
	h api.Handle
}

// samples are lists in which a handle comes, or goes, in each way; and lists without handles, with Most, and without numbers.
func samples(t *testing.T) []sample {
	t.Helper()
	met := map[string]bool{}
	var l []sample
	for _, c := range []api.Config{fromFlat(), growing()} {
		next := mixer(21)
		for _, p := range rows(c, next) {
			for k, h := range p.handles() {
				came := "full"
				if q, _, e := p.letIn(k); e == api.OK {
					came = went(p, q)
				}
				for _, way := range []string{"in: " + came, "out: " + went(p, p.takeOut(k))} {
					if !met[way] {
						met[way] = true
						l = append(l, sample{p, h}, sample{p.renumbered(3, next), h})
					}
				}
			}
		}
	}
	if len(met) < 8 {
		t.Fatalf("samples of %d ways: %v", len(met), met)
	}
	worn := loaded(example(), 3).worn(mostNumbers)
	return append(l, sample{empty(flat()), api.Handle{}}, sample{worn, worn.handles()[1]})
}

// answers calls everything with o and h, and answers the lists that come of it.
func answers(o api.Order, h api.Handle) []api.Order {
	Check(o)
	List(o)
	Label(o, h)
	Compare(o, h, api.Handle{})
	Same(o, o)
	fresh, _ := New(o.Config)
	first, _, _ := First(o)
	after, _, _ := After(o, h)
	before, _, _ := Before(o, h)
	without, _ := Delete(o, h)
	return []api.Order{fresh, first, after, before, without, Twin(o)}
}

// P15.4: what is handed in is only read, refused or not, and so is the room behind its lists, which is not asked either.
func TestOnlyRead(t *testing.T) {
	for _, one := range samples(t) {
		orders := []api.Order{one.p.packed()}
		if len(one.p.gens) < 400 {
			spoilt(one.p, slices.Concat(arrayFaults(one.p), tableFaults(one.p)[:3], pairFaults(one.p)), func(o api.Order, why string) {
				orders = append(orders, o)
			})
		}
		for _, o := range orders {
			tight, handed := copied(o), roomy(o)
			before := copied(whole(handed))
			for _, h := range []api.Handle{one.h, {}, {Number: -1}, {Number: len(o.Table.Gens)}, {Number: greatest, Gen: least}} {
				want := answers(tight, h)
				for i, got := range answers(handed, h) {
					if !alike(got, want[i]) {
						t.Fatalf("answer %d of %v hangs on the room behind its lists", i, o)
					}
				}
				if Check(tight) != Check(handed) || !alike(whole(handed), before) {
					t.Fatalf("what was handed in was turned: %v of %v", h, o)
				}
			}
		}
	}
}

// P15.4: turning what was answered turns neither what was handed in nor another answer; turning what was handed in turns no answer.
func TestNewMemory(t *testing.T) {
	for _, one := range samples(t) {
		o, h := roomy(one.p.packed()), one.h
		want := answers(one.p.packed(), h)
		first, second := answers(o, h), answers(o, h)
		l, _ := List(o)
		for i := range first {
			turnAll(first[i])
			if !alike(o, one.p.packed()) {
				t.Fatalf("answer %d for %v of %v is what was handed in", i, h, one.p.packed())
			}
			for j := i + 1; j < len(first); j++ {
				if !alike(first[j], want[j]) {
					t.Fatalf("answers %d and %d for %v of %v share memory", i, j, h, one.p.packed())
				}
			}
		}
		turnAll(o)
		for i := range second {
			if !alike(second[i], want[i]) {
				t.Fatalf("answer %d for %v of %v is what was handed in", i, h, one.p.packed())
			}
		}
		if !slices.Equal(l, one.p.handles()) {
			t.Fatalf("the handles of %v are what was handed in", one.p.packed())
		}
	}
}

// wantApart asks that no two lists of an answer share memory: that turning each of them turns it alone.
func wantApart(t *testing.T, o api.Order, what string, args ...any) {
	t.Helper()
	other := copied(o)
	for _, turn := range []func(o api.Order){
		func(o api.Order) { turnEach(o.Slots.Words) },
		func(o api.Order) { turnEach(o.Slots.Keys) },
		func(o api.Order) { turnEach(o.Slots.Vals) },
		func(o api.Order) { turnEach(o.Slots.Counts) },
		func(o api.Order) { turnEach(o.Table.Gens) },
		func(o api.Order) { turnEach(o.Table.Ats) },
	} {
		turn(o)
		turn(other)
		if !alike(o, other) {
			t.Fatalf("%s%v: two lists of an answer share memory", what, args)
		}
	}
}

// P15.4: the lists of one answer share none, though those of what was handed in do: one handle, whose list has zeros alone.
func TestListsShareNothing(t *testing.T) {
	for _, one := range samples(t) {
		for i, got := range answers(one.p.packed(), one.h) {
			wantApart(t, got, "answer", i)
		}
	}
	p := loaded(growing(), 1)
	want := answers(p.packed(), api.Handle{})
	o := p.packed()
	o.Slots.Vals, o.Table.Gens = o.Slots.Keys, o.Table.Ats
	wantCheck(t, o, api.OK, "lists that share memory")
	for i, got := range answers(o, api.Handle{}) {
		if !alike(got, want[i]) {
			t.Errorf("answer %d of lists that share memory: %v; want %v", i, got, want[i])
		}
		wantApart(t, got, "answer of lists that share memory", i)
	}
	if !alike(o, p.packed()) {
		t.Errorf("what was handed in was turned: %v", o)
	}
}

// P15.4: no call keeps anything: a list that was turned in its memory answers as what it is then.
func TestNothingKept(t *testing.T) {
	p := loaded(example(), 4)
	o := p.packed()
	next := mixer(3)
	for range 6 {
		p = p.renumbered(0, next)
		want := p.packed()
		copy(o.Slots.Keys, want.Slots.Keys)
		copy(o.Table.Gens, want.Table.Gens)
		copy(o.Table.Ats, want.Table.Ats)
		o.Moved = p.moved
		for k, h := range p.handles() {
			wantLetIn(t, p, o, k)
			wantTakenOut(t, p, o, k)
			wantLabel(t, o, h, p.seats[k].slot, api.OK)
		}
	}
	o.Table.Ats[0] = 15
	wantRefused(t, o, api.ErrBad, "turned so that a number is elsewhere")
	o.Config.Den = 0
	wantRefused(t, o, api.ErrConf, "turned so that its config may not be")
}

// variants are lists that differ from p in one thing each.
func variants(p plain) []api.Order {
	var l []api.Order
	turn := func(do func(o *api.Order)) {
		o := p.packed()
		do(&o)
		l = append(l, o)
	}
	for i := range numbersOf(p.c) {
		turn(func(o *api.Order) { *fields(&o.Config)[i] += 1 << 40 })
		turn(func(o *api.Order) { *fields(&o.Config)[i]-- })
	}
	turn(func(o *api.Order) { o.Config.Tag ^= 128 })
	turn(func(o *api.Order) { o.Moved++ })
	turn(func(o *api.Order) { o.Moved ^= 1 << 63 })
	turn(func(o *api.Order) { o.Slots.Seg *= 2 })
	turn(func(o *api.Order) { o.Slots.Laid++ })
	turn(func(o *api.Order) { o.Slots.Words[0] ^= 1 })
	for at := range p.size {
		turn(func(o *api.Order) { o.Slots.Keys[at]++ })
		turn(func(o *api.Order) { o.Slots.Vals[at]-- })
	}
	for at := range p.array().Counts {
		turn(func(o *api.Order) { o.Slots.Counts[at]-- })
	}
	for number := range p.gens {
		turn(func(o *api.Order) { o.Table.Gens[number]++ })
		turn(func(o *api.Order) { o.Table.Ats[number]-- })
	}
	turn(func(o *api.Order) { o.Slots.Words = append(o.Slots.Words, 0) })
	turn(func(o *api.Order) { o.Slots.Keys = append(o.Slots.Keys, 0) })
	turn(func(o *api.Order) { o.Slots.Vals = append(o.Slots.Vals, 0) })
	turn(func(o *api.Order) { o.Slots.Counts = append(o.Slots.Counts, 0) })
	turn(func(o *api.Order) { o.Table.Gens = append(o.Table.Gens, 0) })
	turn(func(o *api.Order) { o.Table.Ats = append(o.Table.Ats, -1) })
	turn(func(o *api.Order) { o.Slots = api.Slots{} })
	turn(func(o *api.Order) { o.Table = api.Handles{Gens: []int{5}} })
	turn(func(o *api.Order) { o.Config = api.Config{} })
	turn(func(o *api.Order) { *o = api.Order{} })
	return l
}

// P15.1: lists that differ in one thing alone, whether they may be or not, are not the same; each is the same as itself in other memory.
func TestSame(t *testing.T) {
	for _, p := range []plain{loaded(example(), 5), empty(growing()), loaded(growing(), 40).renumbered(3, mixer(2))} {
		o := p.packed()
		if !Same(o, o) || !Same(o, p.packed()) || !Same(roomy(o), p.packed()) {
			t.Errorf("%v is not the same as itself", o)
		}
		for i, other := range variants(p) {
			if Same(o, other) || Same(other, o) {
				t.Errorf("variant %d is the same: %v and %v", i, o, other)
			}
			if !Same(other, copied(other)) {
				t.Errorf("variant %d is not the same as itself: %v", i, other)
			}
		}
	}
	if none := copied(api.Order{}); !Same(api.Order{}, none) || !Same(none, api.Order{}) || Same(none, api.Order{Moved: 1}) {
		t.Error("lists without elements, and none, are the same; and nothing else")
	}
}

// P15.1: twins of lists, whether they may be or not, in memory of their own.
func TestTwin(t *testing.T) {
	p := loaded(growing(), 30).renumbered(4, mixer(9))
	l := append(variants(p), p.packed(), api.Order{}, empty(example()).packed())
	spoilt(p, slices.Concat(arrayFaults(p), tableFaults(p), pairFaults(p)), func(o api.Order, why string) { l = append(l, o) })
	for i, o := range l {
		handed, want := roomy(o), copied(o)
		before := copied(whole(handed))
		twin := Twin(handed)
		if !alike(twin, want) || !Same(twin, o) {
			t.Errorf("twin %d of %v: %v", i, o, twin)
		}
		wantApart(t, twin, "twin", i)
		if !alike(whole(handed), before) {
			t.Errorf("turning twin %d turned %v", i, o)
		}
		again := Twin(handed)
		turnAll(handed)
		if !alike(again, want) {
			t.Errorf("turning %v turned twin %d", o, i)
		}
	}
}

// P1, P15.1: two faults at once: the config's is told first, and nothing panics.
func TestTwoFaults(t *testing.T) {
	ask := func(p plain, first, second []fault) {
		for _, one := range first {
			for _, other := range second {
				o := p.packed()
				one.turn(&o)
				other.turn(&o)
				wantRefused(t, o, api.ErrBad, one.why, other.why)
				o.Config.LeafHigh = greatest
				wantRefused(t, o, api.ErrConf, one.why, other.why)
			}
		}
	}
	for _, p := range []plain{loaded(example(), 1), loaded(example(), 4).renumbered(2, mixer(5))} {
		array, table, pair := arrayFaults(p), tableFaults(p), pairFaults(p)
		// MaxSlots numbers take their time, and differ in nothing here.
		table = slices.DeleteFunc(table, func(f fault) bool { return f.why == "too many numbers" })
		ask(p, pair, table)
		ask(p, pair, array)
		ask(p, table, array)
	}
}

// edges are numbers that may be handed in, at all ends.
func edges() []int {
	return []int{least, least + 1, -64, -1, 0, 1, 2, 4, 8, 9, 64, api.MaxSlots, api.MaxSlots + 1, lastGen, 1 << 32, greatest - 1, greatest}
}

// P1: the edges in each field of a config, in a list's numbers, and as handles.
func TestEdges(t *testing.T) {
	p := loaded(growing(), 4)
	for _, a := range edges() {
		for i := range numbersOf(p.c) {
			c := growing()
			*fields(&c)[i] = a
			if o, e := New(c); e == api.OK {
				wantOrder(t, o, e, empty(c), "New", c)
				continue
			}
			o, e := New(c)
			wantNone(t, o, e, api.ErrConf, "New", c)
			o = p.packed()
			o.Config = c
			wantRefused(t, o, api.ErrConf, "edges")
		}
		for _, b := range edges() {
			o := p.packed()
			if want, was := (api.Handle{Number: a, Gen: b}), p.handles(); slices.Contains(was, want) {
				wantLabel(t, o, want, p.seats[slices.Index(was, want)].slot, api.OK)
			} else {
				wantStranger(t, o, want, was[0], api.ErrHandle)
			}
			o.Slots.Keys[0], o.Table.Ats[3] = int64(a), b
			if a != 3 || b != 0 {
				wantRefused(t, o, api.ErrBad, "edges", a, b)
			}
			o.Table.Gens[2] = a
			wantAnything(t, o, "edges", a, b)
			o.Slots.Seg, o.Slots.Counts[0] = a, b
			wantAnything(t, o, "edges", a, b)
		}
	}
	high := api.Config{Tag: 255, Most: greatest, Seg: greatest, Least: greatest, Den: greatest, LeafLow: greatest, RootLow: greatest, RootHigh: greatest, LeafHigh: greatest}
	low := api.Config{Most: least, Seg: least, Least: least, Den: least, LeafLow: least, RootLow: least, RootHigh: least, LeafHigh: least}
	for _, c := range []api.Config{high, low} {
		o := p.packed()
		o.Config = c
		wantRefused(t, o, api.ErrConf, "edges everywhere")
	}
}

// wantAnything asks that a list that may not be is refused everywhere.
func wantAnything(t *testing.T, o api.Order, why string, args ...any) {
	t.Helper()
	if e := Check(o); e != api.OK {
		wantRefused(t, o, e, why, args...)
	}
}

// walk is a list under way, told by its own answers alone: the program's, its handles as a plain sequence, their labels, and those that were taken out; how many came and went, and the most slots that were met.
type walk struct {
	t          *testing.T
	o          api.Order
	l, gone    []api.Handle
	at         map[api.Handle]int
	came, went int
	most       int
}

func begun(t *testing.T, c api.Config) *walk {
	t.Helper()
	o, e := New(c)
	if e != api.OK {
		t.Fatalf("New(%v): %d", c, int(e))
	}
	return &walk{t: t, o: o}
}

// labels are those of all handles.
func (w *walk) labels() map[api.Handle]int {
	w.t.Helper()
	all := map[api.Handle]int{}
	for _, h := range w.l {
		at, e := Label(w.o, h)
		if e != api.OK {
			w.t.Fatalf("Label of %v, which is in the list: %d", h, int(e))
		}
		all[h] = at
	}
	return all
}

// behind puts o in place of the list, with l as its handles; Moved is as many more as labels of handles that stay were turned.
func (w *walk) behind(o api.Order, l []api.Handle) {
	w.t.Helper()
	before, moved := w.at, w.o.Moved
	w.o, w.l = o, l
	w.at = w.labels()
	w.hold()
	for h, at := range w.at {
		if was, had := before[h]; had && was != at {
			moved++
		}
	}
	if o.Moved != moved {
		w.t.Fatalf("Moved is %d; want %d", o.Moved, moved)
	}
	w.most = max(w.most, len(o.Slots.Keys))
}

// letIn lets a handle in as the k-th, by one of the calls that do; none that was there ever.
func (w *walk) letIn(k, call int) {
	w.t.Helper()
	var ask []func() (api.Order, api.Handle, api.Errno)
	if k == 0 {
		ask = append(ask, func() (api.Order, api.Handle, api.Errno) { return First(w.o) })
	}
	if k > 0 {
		ask = append(ask, func() (api.Order, api.Handle, api.Errno) { return After(w.o, w.l[k-1]) })
	}
	if k < len(w.l) {
		ask = append(ask, func() (api.Order, api.Handle, api.Errno) { return Before(w.o, w.l[k]) })
	}
	o, h, e := ask[call%len(ask)]()
	if len(w.l) == w.o.Config.Most {
		wantNew(w.t, o, h, e, plain{}, api.Handle{}, api.ErrFull, "behind Most")
		return
	}
	if e != api.OK || slices.Contains(w.l, h) || slices.Contains(w.gone, h) {
		w.t.Fatalf("the new handle of %v at %d: %v, %d", w.o, k, h, int(e))
	}
	w.came++
	w.behind(o, slices.Insert(slices.Clone(w.l), k, h))
}

// takeOut takes the k-th handle out.
func (w *walk) takeOut(k int) {
	w.t.Helper()
	h := w.l[k]
	o, e := Delete(w.o, h)
	if e != api.OK {
		w.t.Fatalf("Delete of %v: %d", h, int(e))
	}
	w.went, w.gone = w.went+1, append(w.gone, h)
	w.behind(o, slices.Delete(slices.Clone(w.l), k, k+1))
}

// hold asks that the list may be, that its handles are those of the sequence, that labels rise along it and are where the table says, and that the last ones that went are none.
func (w *walk) hold() {
	w.t.Helper()
	if e := Check(w.o); e != api.OK {
		w.t.Fatalf("%v may not be: %d", w.o, int(e))
	}
	if l, e := List(w.o); e != api.OK || !slices.Equal(l, w.l) {
		w.t.Fatalf("List: %v, %d; want %v", l, int(e), w.l)
	}
	last := -1
	for _, h := range w.l {
		at := w.at[h]
		if at <= last || w.o.Table.Ats[h.Number] != at || w.o.Slots.Keys[at] != int64(h.Number) {
			w.t.Fatalf("the label of %v is %d, behind %d, in %v", h, at, last, w.o)
		}
		last = at
	}
	for _, h := range w.gone[max(len(w.gone)-3, 0):] {
		if at, e := Label(w.o, h); at != 0 || e != api.ErrHandle {
			w.t.Fatalf("Label of %v, which was taken out: %d, %d", h, at, int(e))
		}
	}
}

// compare asks how some handles stand to each other, and of all that were taken out.
func (w *walk) compare() {
	w.t.Helper()
	some := someOf(w.l)
	for _, a := range some {
		for _, b := range some {
			wantCompare(w.t, w.o, a, b, cmp.Compare(slices.Index(w.l, a), slices.Index(w.l, b)), api.OK)
		}
	}
	for i, h := range w.gone {
		if i%11 == 0 || len(w.gone) < 12 {
			wantStranger(w.t, w.o, h, w.gone[0], api.ErrHandle)
		}
	}
}

// paid asks that labels were turned at most as often as theorem C says of what came, and went.
func (w *walk) paid() {
	w.t.Helper()
	c, high := w.o.Config, 0
	for size := c.Seg; size < w.most; size *= 2 {
		high++
	}
	come := 4*c.Seg*(high+2) + 8
	if pays := uint64((w.came+1)*come + w.went*(2*c.Den*high*(high+1)+8)); w.o.Moved > pays {
		w.t.Errorf("%d labels were turned by %d that came and %d that went, which pay %d", w.o.Moved, w.came, w.went, pays)
	}
}

// step lets a handle in, or takes one out, so that the list grows and shrinks in turn.
func (w *walk) step(i int, next func(int) int) {
	w.t.Helper()
	rules := places(next)
	rule, most := rules[i/25%len(rules)], w.o.Config.Most
	coming := 8
	if i/(most+most/2+10)%2 == 1 {
		coming = 2
	}
	if len(w.l) == 0 || next(10) < coming {
		w.letIn(rule(len(w.l)+1), next(2))
		return
	}
	w.takeOut(rule(len(w.l)))
}

// P15.3, P15.5: rows of mixed steps: handles stay in their order, new ones stand where they were let in, those that went are none any more; and labels are turned as often as theorem D lets them be.
func TestMixedRows(t *testing.T) {
	for i, c := range append(named(), growing(), turned(growing(), func(c *api.Config) { c.Most = 33 })) {
		next := mixer(uint64(i) + 3)
		w := begun(t, c)
		for k := range 4*c.Most + 60 {
			w.step(k, next)
			if k%20 == 0 {
				w.compare()
			}
		}
		w.compare()
		w.paid()
	}
}

// P15.5: rows that fill a list by one rule, and empty it by another one; handles that come behind each other in one place turn the most labels.
func TestFillAndEmpty(t *testing.T) {
	for _, c := range named() {
		next := mixer(7)
		rules := places(next)
		for i, come := range rules {
			w := begun(t, c)
			for n := range c.Most + 1 {
				w.letIn(come(min(n, c.Most-1)+1), n)
			}
			w.compare()
			leave := rules[(2*i+1)%len(rules)]
			for n := c.Most; n > 0; n-- {
				w.takeOut(leave(n))
			}
			w.compare()
			w.paid()
			if len(w.o.Slots.Keys) != c.Least || len(w.o.Table.Gens) != c.Most {
				t.Errorf("a list that was emptied: %v", w.o)
			}
		}
	}
}

// P15.5: two lists that are turned in turns answer as each of them by itself: nothing is kept from call to call.
func TestTwoInTurns(t *testing.T) {
	one, other, alone := begun(t, growing()), begun(t, fromFlat()), begun(t, growing())
	next, beside, again := mixer(9), mixer(10), mixer(9)
	for i := range 150 {
		one.step(i, next)
		other.step(i, beside)
	}
	for i := range 150 {
		alone.step(i, again)
	}
	if !alike(one.o, alone.o) {
		t.Errorf("beside another list: %v; alone: %v", one.o, alone.o)
	}
}
