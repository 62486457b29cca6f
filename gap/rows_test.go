package gap

import (
	"slices"
	"testing"

	"shelfmark/api"
	"shelfmark/conf"
	"shelfmark/slots"
	"shelfmark/win"
)

// sample is an array of a config, and a place in it.
type sample struct {
	c api.Config
	p plain
	k int
}

// samples have a put and a take of each way: where no window is over, where the segment is, where a wider one is, where all is; and arrays without pairs, and with Most.
func samples(t *testing.T) []sample {
	t.Helper()
	type kind struct {
		put   bool
		over  int
		isAll bool
	}
	met := map[kind]bool{}
	var l []sample
	keep := func(s sample, put bool, w way) {
		if one := (kind{put, min(w.over, 1), w.over == w.top}); !met[one] {
			met[one] = true
			l = append(l, s)
		}
	}
	for _, c := range []api.Config{fromFlat(), growing()} {
		next := mixer(21)
		for _, size := range capacities(c)[1:4] {
			for _, n := range counts(c, size, next) {
				p := scattered(c, size, n, next)
				for _, k := range someNumbers(n - 1) {
					if n < c.Most {
						_, w := p.put(c, k, api.Pair{})
						keep(sample{c, p, k}, true, w)
					}
					_, w := p.take(c, k)
					keep(sample{c, p, k}, false, w)
				}
			}
		}
	}
	if len(met) < 8 {
		t.Fatalf("samples of %d kinds: %v", len(met), met)
	}
	full := growing()
	return append(l, sample{full, empty(8, 16, 0).load(full, mixedPairs(64, 2)), 9}, sample{full, empty(8, 16, 5), 0}, sample{flat(), scattered(flat(), 16, 5, mixer(2)), 2})
}

// answers calls everything with s, and answers what comes of it; l has at most Most pairs.
func answers(c api.Config, s api.Slots, k int, l []api.Pair) []api.Slots {
	fresh, _ := New(c)
	with, _ := Put(c, s, k, api.Pair{Key: 1, Val: 2})
	without, _ := Take(c, s, k)
	some, _ := Load(c, s, l)
	none, _ := Load(c, s, nil)
	return []api.Slots{fresh, with, without, some, none}
}

// P9.4: what is handed in is only read, refused or not, and so is the room behind it.
func TestOnlyRead(t *testing.T) {
	for _, one := range samples(t) {
		arrays := []api.Slots{one.p.packed(), empty(16, 64, 0).packed(), one.p.load(one.c, mixedPairs(one.c.Most, 4)).packed()}
		for _, bad := range spoilt(one.p) {
			arrays = append(arrays, bad.s)
		}
		for _, s := range arrays {
			for _, c := range []api.Config{one.c, turned(one.c, func(c *api.Config) { c.Tag = 0 }), example()} {
				handed, l := roomy(s), mixedPairs(min(one.c.Most, 40), 7)
				before, lBefore := copied(whole(handed)), slices.Clone(l[:cap(l)])
				for _, k := range []int{one.k, 0, 1, -1, one.c.Most, greatest} {
					Check(c, handed)
					answers(c, handed, k, l)
					Load(c, handed, append(l, make([]api.Pair, 2*one.c.Most)...))
					if !alike(whole(handed), before) || !slices.Equal(l[:cap(l)], lBefore) {
						t.Fatalf("what was handed in was turned: %v, %d of %v", c, k, s)
					}
				}
			}
		}
	}
}

// P9.4: turning what was answered turns neither what was handed in nor another answer; turning what was handed in turns no answer.
func TestNewMemory(t *testing.T) {
	for _, one := range samples(t) {
		s, l := roomy(one.p.packed()), mixedPairs(5, 8)
		lWant := slices.Clone(l)
		want := answers(one.c, one.p.packed(), one.k, lWant)
		first, second := answers(one.c, s, one.k, l), answers(one.c, s, one.k, l)
		for i := range first {
			turnAll(first[i])
			if !alike(s, one.p.packed()) || !slices.Equal(l, lWant) {
				t.Fatalf("answer %d at %d of %v is what was handed in", i, one.k, one.p.packed())
			}
			for j := i + 1; j < len(first); j++ {
				if !alike(first[j], want[j]) {
					t.Fatalf("answers %d and %d of %v share memory", i, j, one.p.packed())
				}
			}
		}
		turnAll(s)
		clear(l[:cap(l)])
		for i := range second {
			if !alike(second[i], want[i]) {
				t.Fatalf("answer %d at %d of %v is what was handed in", i, one.k, one.p.packed())
			}
		}
	}
}

// P9.4: the lists of one answer that could share memory, keys and values, share none.
func TestListsShareNothing(t *testing.T) {
	for _, one := range samples(t) {
		for i, s := range answers(one.c, one.p.packed(), one.k, risingPairs(8)) {
			vals := slices.Clone(s.Vals)
			turnEach(s.Keys, -1)
			if !slices.Equal(s.Vals, vals) {
				t.Errorf("keys and values of answer %d share memory", i)
			}
		}
	}
}

// P9.2, P9.3: a ledger that is near its greatest number goes on from 0, whichever way a step goes.
func TestLedgerRunsOver(t *testing.T) {
	for _, one := range samples(t) {
		n := one.p.count(0, len(one.p.cells))
		for _, ahead := range []uint64{0, 1, 2, 3, 7, 15, 31, 63, 127} {
			p := one.p
			p.laid = allBits - ahead
			s := p.packed()
			wantCheck(t, one.c, s, api.OK, "a great ledger")
			if n < one.c.Most {
				x := api.Pair{Key: 3, Val: 4}
				got, e := Put(one.c, s, one.k, x)
				want, w := p.put(one.c, one.k, x)
				wantSlots(t, got, e, want, "Put", one.k, w, s)
			}
			if one.k < n {
				got, e := Take(one.c, s, one.k)
				want, w := p.take(one.c, one.k)
				wantSlots(t, got, e, want, "Take", one.k, w, s)
			}
			for _, many := range []int{0, 1, 2, 8} {
				got, e := Load(one.c, s, risingPairs(many))
				wantSlots(t, got, e, p.load(one.c, risingPairs(many)), "Load", many, s)
				if got.Laid != uint64(many)-ahead-1 {
					t.Errorf("%d laid upon %d: %d", many, p.laid, got.Laid)
				}
			}
		}
	}
}

// edges are numbers that may be handed in, at all ends.
func edges() []int {
	return []int{least, least + 1, -64, -1, 0, 1, 2, 4, 8, 9, 64, api.MaxMost + 1, api.MaxSlots, api.MaxSlots + 1, 1 << 32, greatest - 1, greatest}
}

// fields are the numbers of c.
func fields(c *api.Config) []*int {
	return []*int{&c.Most, &c.Seg, &c.Least, &c.Den, &c.LeafLow, &c.RootLow, &c.RootHigh, &c.LeafHigh}
}

// P1, P9.1: the edges in each field of a config, alone and by twos: what conf refuses is refused.
func TestEdgesOfConfigs(t *testing.T) {
	s := empty(8, 16, 0).spread(0, 16, risingPairs(4)).packed()
	asked := 0
	for i := range fields(&api.Config{}) {
		for j := range i + 1 {
			for _, a := range edges() {
				for _, b := range edges() {
					c := growing()
					*fields(&c)[i], *fields(&c)[j] = a, b
					want := conf.Check(c)
					got, e := New(c)
					if want == api.OK {
						wantSlots(t, got, e, empty(c.Seg, c.Least, 0), "New", c)
						continue
					}
					asked++
					wantRefused(t, got, e, want, "New", c)
					wantCheck(t, c, s, want, "edges")
					got, e = Put(c, s, a, api.Pair{})
					wantRefused(t, got, e, want, "Put", c, a)
					got, e = Take(c, s, b)
					wantRefused(t, got, e, want, "Take", c, b)
					got, e = Load(c, s, risingPairs(i))
					wantRefused(t, got, e, want, "Load", c)
				}
			}
		}
	}
	if asked < 1000 {
		t.Errorf("%d configs were refused", asked)
	}
	high := api.Config{Tag: 255, Most: greatest, Seg: greatest, Least: greatest, Den: greatest, LeafLow: greatest, RootLow: greatest, RootHigh: greatest, LeafHigh: greatest}
	low := api.Config{Most: least, Seg: least, Least: least, Den: least, LeafLow: least, RootLow: least, RootHigh: least, LeafHigh: least}
	for _, c := range []api.Config{high, low} {
		wantAllRefused(t, c, s, api.ErrConf, "edges everywhere")
	}
}

// P1, P9.1 to P9.3: the edges in the numbers of an array, alone and together; keys, values and ledgers are any.
func TestEdgesOfArrays(t *testing.T) {
	c := growing()
	p := empty(8, 16, 0).spread(0, 16, []api.Pair{{Key: greatest, Val: greatest}, {Key: least, Val: least}, {Key: greatest, Val: least}, {Key: least, Val: greatest}})
	for _, a := range edges() {
		for _, b := range edges() {
			s := p.packed()
			if a != 8 {
				s.Seg = a
				wantAllRefused(t, c, s, api.ErrBad, "a segment")
			}
			if a != 2 || b != 2 {
				s = p.packed()
				s.Counts[0], s.Counts[1] = a, b
				wantAllRefused(t, c, s, api.ErrBad, "counts")
				s.Seg = b
				wantAllRefused(t, c, s, api.ErrBad, "counts and a segment")
			}
			s = p.packed()
			s.Keys[1], s.Vals[15] = int64(a), int64(b)
			if a != 0 || b != 0 {
				wantAllRefused(t, c, s, api.ErrBad, "gaps")
			}
			q, x := p, api.Pair{Key: int64(a), Val: int64(b)}
			q.laid = uint64(a)
			got, e := Put(c, q.packed(), 3, x)
			want, _ := q.put(c, 3, x)
			wantSlots(t, got, e, want, "Put", x)
			got, e = Load(c, q.packed(), []api.Pair{x, x})
			wantSlots(t, got, e, q.load(c, []api.Pair{x, x}), "Load", x)
		}
	}
}

// P1, P9.2: the edges as places.
func TestEdgesOfPlaces(t *testing.T) {
	c := growing()
	p := empty(8, 16, 0).spread(0, 16, risingPairs(4))
	s, x := p.packed(), api.Pair{Key: 1, Val: 2}
	for _, k := range edges() {
		got, e := Put(c, s, k, x)
		if k < 0 || k > 4 {
			wantRefused(t, got, e, api.ErrArg, "Put", k)
		} else {
			want, _ := p.put(c, k, x)
			wantSlots(t, got, e, want, "Put", k)
		}
		got, e = Take(c, s, k)
		if k < 0 || k >= 4 {
			wantRefused(t, got, e, api.ErrArg, "Take", k)
		} else {
			want, _ := p.take(c, k)
			wantSlots(t, got, e, want, "Take", k)
		}
	}
}

// walk is an array under way: the program's, the plain one, and its pairs told as a list alone.
type walk struct {
	t *testing.T
	c api.Config
	s api.Slots
	p plain
	l []api.Pair
}

// hold asks P9.5 of what a step answered: it is the config's, it has the pairs, and the part that was spread, of so many slots from from on, was laid.
func (w *walk) hold(s api.Slots, e api.Errno, l []api.Pair, want plain, what string, k int) {
	w.t.Helper()
	if e != api.OK || !alike(s, want.packed()) {
		w.t.Fatalf("%s at %d of %v in %v: %v, %d; want %v", what, k, w.s, w.c, s, int(e), want.packed())
	}
	if e = Check(w.c, s); e != api.OK {
		w.t.Fatalf("%s at %d of %v in %v: %v is not the config's", what, k, w.s, w.c, s)
	}
	got, e := slots.Pairs(s, 0, len(s.Keys))
	if e != api.OK || !slices.Equal(got, l) {
		w.t.Fatalf("%s at %d of %v in %v: the pairs are %v; want %v", what, k, w.s, w.c, got, l)
	}
	w.s, w.p, w.l = s, want, l
}

// laid asks how many pairs of the window of a height around the slot at there are, which a step laid.
func (w *walk) laid(s api.Slots, over way, at int) {
	w.t.Helper()
	part := [2]int{0, len(s.Keys)}
	if over.over != over.top {
		path, e := win.Path(s.Seg, len(s.Keys), at)
		if e != api.OK || len(path) != over.top+1 {
			w.t.Fatalf("Path of %d: %v, %d", at, path, int(e))
		}
		part = path[over.over+1]
	}
	l, e := slots.Pairs(s, part[0], part[1])
	if laid := int(s.Laid - w.s.Laid); e != api.OK || laid != len(l) {
		w.t.Fatalf("of %v, %d were laid among %d to %d", s, laid, part[0], part[1])
	}
	if over.over < 0 && len(l)*w.c.Den > w.c.LeafHigh*w.c.Seg {
		w.t.Fatalf("%d were laid where no window is over, in %v", len(l), w.c)
	}
}

func (w *walk) put(k int, x api.Pair) {
	w.t.Helper()
	at := 0
	if len(w.l) > 0 {
		at = w.p.slot(max(k-1, 0))
	}
	s, e := Put(w.c, w.s, k, x)
	want, over := w.p.put(w.c, k, x)
	if e == api.OK {
		w.laid(s, over, at)
	}
	w.hold(s, e, slices.Insert(slices.Clone(w.l), k, x), want, "Put", k)
}

func (w *walk) take(k int) {
	w.t.Helper()
	at := w.p.slot(k)
	s, e := Take(w.c, w.s, k)
	want, over := w.p.take(w.c, k)
	if e == api.OK && over.over >= 0 {
		w.laid(s, over, at)
	} else if s.Laid != w.s.Laid {
		w.t.Fatalf("Take at %d of %v laid pairs, and no window is over", k, w.s)
	}
	w.hold(s, e, slices.Delete(slices.Clone(w.l), k, k+1), want, "Take", k)
}

func (w *walk) load(l []api.Pair) {
	w.t.Helper()
	s, e := Load(w.c, w.s, l)
	if s.Laid != w.s.Laid+uint64(len(l)) {
		w.t.Fatalf("Load of %d laid %d", len(l), s.Laid-w.s.Laid)
	}
	w.hold(s, e, l, w.p.load(w.c, l), "Load", len(l))
}

// set puts another array of the config in its place.
func (w *walk) set(p plain) {
	w.t.Helper()
	w.s, w.p, w.l = p.packed(), p, p.all()
	wantCheck(w.t, w.c, w.s, api.OK, "an array that is set")
}

func walkIn(t *testing.T, c api.Config, laid uint64) *walk {
	t.Helper()
	w := &walk{t: t, c: c}
	w.set(empty(c.Seg, c.Least, laid))
	return w
}

// places are rules by which a row goes: at the beginning, at the end, amid all, near one place, anywhere.
func places(next func(int) int) []func(n int) int {
	return []func(n int) int{
		func(int) int { return 0 },
		func(n int) int { return n - 1 },
		func(n int) int { return n / 2 },
		func(n int) int { return min(n-1, 5) },
		func(n int) int { return max(0, n-1-next(3)) },
		func(n int) int { return next(n) },
	}
}

// P9.5: rows that fill an array with Most pairs, and empty it again, each by each rule.
func TestFillAndEmpty(t *testing.T) {
	configs := append(named(), mixedConfigs(25, 120, 19)...)
	for _, c := range configs {
		c.Most = min(c.Most, 150)
		next := mixer(23)
		rules := places(next)
		for i, come := range rules {
			w := walkIn(t, c, allBits-60)
			for n := range c.Most {
				w.put(come(n+1), mixedPair(n, next))
			}
			got, e := Put(c, w.s, 0, api.Pair{})
			wantRefused(t, got, e, api.ErrFull, "Put behind Most", c)
			leave := rules[(i*5+2)%len(rules)]
			for n := c.Most; n > 0; n-- {
				w.take(leave(n))
			}
			if len(w.s.Keys) != c.Least || manyPairs(w.s) != 0 {
				t.Errorf("an array that was emptied: %v", w.s)
			}
		}
	}
}

// P9.5: rows of steps of all kinds, in phases that fill, empty and do both.
func TestMixedRows(t *testing.T) {
	for i, c := range append(append(named(), named()...), mixedConfigs(60, 400, 20)...) {
		next := mixer(uint64(i) + 31)
		w := walkIn(t, c, uint64(i))
		rules := places(next)
		rule, gain := 0, 8
		for step := range 260 {
			if step%20 == 0 {
				rule, gain = next(len(rules)), 1+next(9)
			}
			n := len(w.l)
			switch {
			case step%61 == 60:
				w.load(mixedPairs(next(c.Most+1), uint64(step)))
			case n < c.Most && (n == 0 || next(10) < gain):
				w.put(rules[rule](n+1), mixedPair(step, next))
			default:
				w.take(rules[rule](n))
			}
		}
	}
}

// P9.1 to P9.5 where sizes are at their limits: Most pairs, and the greatest capacity.
func TestWidest(t *testing.T) {
	c := widest()
	next := mixer(29)
	w := walkIn(t, c, 0)
	for _, n := range []int{8191, 8192, 8193, 4095, 4096, api.MaxMost - 1} {
		w.load(mixedPairs(n, uint64(n)))
		w.put(next(n+1), mixedPair(n, next))
		w.take(0)
		w.put(0, mixedPair(n, next))
		w.take(n)
	}
	w.load(mixedPairs(api.MaxMost, 3))
	got, e := Put(c, w.s, 0, api.Pair{})
	wantRefused(t, got, e, api.ErrFull, "Put behind Most", c)
	got, e = Load(c, w.s, make([]api.Pair, api.MaxMost+1))
	wantRefused(t, got, e, api.ErrFull, "Load of one more than Most", c)
	w.take(api.MaxMost - 1)
	w.set(scattered(c, 32768, 4095, next))
	w.take(2000)
	if len(w.s.Keys) != 16384 {
		t.Errorf("half of the greatest capacity: %d", len(w.s.Keys))
	}
	w.set(scattered(c, 16384, 8192, next))
	w.put(2000, api.Pair{Key: least, Val: greatest})
	if len(w.s.Keys) != 32768 {
		t.Errorf("the greatest capacity: %d", len(w.s.Keys))
	}
}
