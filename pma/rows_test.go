package pma

import (
	"math/bits"
	"slices"
	"testing"

	"shelfmark/api"
)

// variants are maps that differ from m in one thing each.
func variants(p plain) []api.Pma {
	var l []api.Pma
	turn := func(do func(m *api.Pma)) {
		m := p.packed()
		do(&m)
		l = append(l, m)
	}
	for i := range numbersOf(p.c) {
		for _, by := range []int{1, -1, 1 << 40} {
			turn(func(m *api.Pma) { *fields(&m.Config)[i] += by })
		}
	}
	turn(func(m *api.Pma) { m.Config.Tag++ })
	turn(func(m *api.Pma) { m.Config.Tag ^= 128 })
	turn(func(m *api.Pma) { m.Slots.Seg *= 2 })
	turn(func(m *api.Pma) { m.Slots.Laid++ })
	turn(func(m *api.Pma) { m.Slots.Laid ^= 1 << 63 })
	for at := range p.cells {
		turn(func(m *api.Pma) { m.Slots.Keys[at]++ })
		turn(func(m *api.Pma) { m.Slots.Vals[at] ^= least })
		turn(func(m *api.Pma) { m.Slots.Words[at/64] ^= 1 << uint(at%64) })
	}
	for at := range p.array.packed().Counts {
		turn(func(m *api.Pma) { m.Slots.Counts[at]-- })
	}
	turn(func(m *api.Pma) { m.Slots.Keys = m.Slots.Keys[1:] })
	turn(func(m *api.Pma) { m.Slots.Keys = append(m.Slots.Keys, 0) })
	turn(func(m *api.Pma) { m.Slots.Vals = m.Slots.Vals[:3] })
	turn(func(m *api.Pma) { m.Slots.Vals = append(m.Slots.Vals, 0) })
	turn(func(m *api.Pma) { m.Slots.Words = nil })
	turn(func(m *api.Pma) { m.Slots.Words = append(m.Slots.Words, 0) })
	turn(func(m *api.Pma) { m.Slots.Counts = m.Slots.Counts[1:] })
	turn(func(m *api.Pma) { m.Slots.Counts = append(m.Slots.Counts, 0) })
	turn(func(m *api.Pma) { m.Slots = api.Slots{} })
	turn(func(m *api.Pma) { m.Config = api.Config{} })
	turn(func(m *api.Pma) { *m = api.Pma{} })
	return l
}

// fields are the numbers of c.
func fields(c *api.Config) []*int {
	return []*int{&c.Most, &c.Seg, &c.Least, &c.Den, &c.LeafLow, &c.RootLow, &c.RootHigh, &c.LeafHigh}
}

// P11.1: maps that differ in one field of the config, one slot, one count, one word, or the ledger alone, are not the same; each is the same as itself in other memory.
func TestSame(t *testing.T) {
	for _, p := range []plain{loaded(example(), threes(5)), {growing(), empty(8, 16, 3)}, loaded(growing(), threes(40)), scattered(fromFlat(), 64, 20, mixer(4))} {
		m := p.packed()
		if !Same(m, m) || !Same(m, p.packed()) || !Same(roomy(m), p.packed()) {
			t.Errorf("%v is not the same as itself", m)
		}
		for i, other := range variants(p) {
			if Same(m, other) || Same(other, m) {
				t.Errorf("variant %d is the same: %v and %v", i, m, other)
			}
			if !Same(other, copied(other)) {
				t.Errorf("variant %d is not the same as itself: %v", i, other)
			}
		}
	}
}

// P11.1: none and lists without elements are the same.
func TestSameOfNothing(t *testing.T) {
	empties := api.Slots{Words: []uint64{}, Keys: []int64{}, Vals: []int64{}, Counts: []int{}}
	if !Same(api.Pma{}, api.Pma{}) || !Same(api.Pma{}, api.Pma{Slots: empties}) || !Same(api.Pma{Slots: empties}, api.Pma{}) {
		t.Error("nothing is not the same as nothing")
	}
	if Same(api.Pma{}, api.Pma{Config: example()}) || Same(api.Pma{Config: example()}, api.Pma{Config: growing()}) {
		t.Error("configs are told apart, without slots too")
	}
}

// P11.1: twins of maps of any kind, also such as may not be, in memory of their own.
func TestTwin(t *testing.T) {
	p := loaded(growing(), threes(30))
	l := append(variants(p), p.packed(), api.Pma{}, plain{example(), empty(4, 16, allBits)}.packed())
	for _, c := range badConfigs() {
		l = append(l, api.Pma{Config: c, Slots: p.array.packed()})
	}
	for _, bad := range spoilt(p.array) {
		l = append(l, api.Pma{Config: p.c, Slots: bad.s})
	}
	l = append(l, plain{p.c, p.with(2, greatest)}.packed())
	for i, m := range l {
		handed, want := roomy(m), copied(m)
		before := copied(whole(handed))
		twin := Twin(handed)
		if !alike(twin, want) || !Same(twin, m) {
			t.Errorf("twin %d of %v: %v", i, m, twin)
		}
		turnAll(twin)
		if !alike(whole(handed), before) {
			t.Errorf("turning twin %d turned %v", i, m)
		}
		again := Twin(handed)
		turnAll(handed)
		if !alike(again, want) {
			t.Errorf("turning %v turned twin %d", m, i)
		}
	}
}

// P11.1: a twin's lists share no memory, though those of what was handed in do.
func TestTwinOfShared(t *testing.T) {
	m := loaded(example(), threes(6)).packed()
	m.Slots.Vals = m.Slots.Keys
	twin := Twin(m)
	keys := slices.Clone(m.Slots.Keys)
	turnEach(twin.Slots.Vals, -1)
	if !slices.Equal(twin.Slots.Keys, keys) {
		t.Error("keys and values of a twin share memory")
	}
}

// samples have a put and a delete of each way, with the keys asked for.
func samples(t *testing.T) []sample {
	t.Helper()
	type kind struct {
		put   bool
		over  int
		isAll bool
	}
	met := map[kind]bool{}
	var l []sample
	keep := func(p plain, key int64, put bool, w way) {
		if one := (kind{put, min(w.over, 1), w.over == w.top}); !met[one] {
			met[one] = true
			l = append(l, sample{p, key})
		}
	}
	for _, c := range []api.Config{fromFlat(), growing()} {
		next := mixer(21)
		for _, size := range capacities(c)[1:4] {
			for _, n := range counts(c, size, next) {
				p := scattered(c, size, n, next)
				for _, key := range beside(someOf(keysOf(p.all()))) {
					if _, is := p.find(key); is {
						_, w := p.delete(key)
						keep(p, key, false, w)
					} else if n < c.Most {
						_, w := p.put(api.Pair{Key: key})
						keep(p, key, true, w)
					}
				}
			}
		}
	}
	if len(met) < 8 {
		t.Fatalf("samples of %d kinds: %v", len(met), met)
	}
	return append(l, sample{loaded(growing(), threes(64)), 9}, sample{loaded(growing(), threes(64)), 1}, sample{plain{growing(), empty(8, 16, 5)}, 0}, sample{loaded(flat(), threes(5)), 3})
}

// sample is a map, and a key that is asked of it.
type sample struct {
	p   plain
	key int64
}

// answers calls everything with m, and answers what comes of it.
func answers(m api.Pma, key int64) []api.Pma {
	Check(m)
	Size(m)
	Get(m, key)
	fresh, _ := New(m.Config)
	with, _ := Put(m, key, 2)
	without, _ := Delete(m, key)
	high, _ := Put(m, greatest, least)
	low, _ := Put(m, least, greatest)
	return []api.Pma{fresh, with, without, high, low, Twin(m)}
}

// P11.5: what is handed in is only read, refused or not, and so is the room behind its lists, which is not asked either.
func TestOnlyRead(t *testing.T) {
	for _, one := range samples(t) {
		maps := []api.Pma{one.p.packed(), plain{one.p.c, empty(16, 64, 0)}.packed(), {}}
		for _, bad := range spoilt(one.p.array) {
			maps = append(maps, api.Pma{Config: one.p.c, Slots: bad.s})
		}
		if n := one.p.count(0, len(one.p.cells)); n > 1 {
			maps = append(maps, plain{one.p.c, one.p.with(n-1, least)}.packed())
		}
		for _, m := range append(maps, api.Pma{Config: badConfigs()["half"], Slots: one.p.array.packed()}) {
			tight, handed := copied(m), roomy(m)
			before := copied(whole(handed))
			for _, key := range []int64{one.key, least, -1, 0, 1, 7, greatest} {
				want := answers(tight, key)
				for i, got := range answers(handed, key) {
					if !alike(got, want[i]) {
						t.Fatalf("answer %d of %v hangs on the room behind its lists", i, m)
					}
				}
				if Check(tight) != Check(handed) || !Same(handed, tight) || !alike(whole(handed), before) {
					t.Fatalf("what was handed in was turned: %d of %v", key, m)
				}
			}
		}
	}
}

// P11.5: turning what was answered turns neither what was handed in nor another answer; turning what was handed in turns no answer.
func TestNewMemory(t *testing.T) {
	for _, one := range samples(t) {
		m := roomy(one.p.packed())
		want := answers(one.p.packed(), one.key)
		first, second := answers(m, one.key), answers(m, one.key)
		for i := range first {
			turnAll(first[i])
			if !alike(m, one.p.packed()) {
				t.Fatalf("answer %d at %d of %v is what was handed in", i, one.key, one.p.packed())
			}
			for j := i + 1; j < len(first); j++ {
				if !alike(first[j], want[j]) {
					t.Fatalf("answers %d and %d of %v share memory", i, j, one.p.packed())
				}
			}
		}
		turnAll(m)
		for i := range second {
			if !alike(second[i], want[i]) {
				t.Fatalf("answer %d at %d of %v is what was handed in", i, one.key, one.p.packed())
			}
		}
	}
}

// P11.5: the lists of one answer that could share memory, keys and values, share none.
func TestListsShareNothing(t *testing.T) {
	for _, one := range samples(t) {
		m := one.p.packed()
		for i, got := range answers(m, one.key) {
			vals := slices.Clone(got.Slots.Vals)
			turnEach(got.Slots.Keys, -1)
			if !slices.Equal(got.Slots.Vals, vals) {
				t.Errorf("keys and values of answer %d share memory", i)
			}
		}
	}
}

// P11.5: no call keeps anything: a map that was turned in its memory answers as what it is then.
func TestNothingKept(t *testing.T) {
	p := loaded(example(), threes(4))
	m := p.packed()
	for k, key := range []int64{-9, -2, 1, greatest} {
		wantVal(t, m, p.all()[k].Key, p.all()[k].Val, "as it is")
		p.array = p.with(k, key)
		copy(m.Slots.Keys, p.packed().Slots.Keys)
		for _, asks := range beside(keysOf(p.all())) {
			wantPut(t, p, m, api.Pair{Key: asks, Val: 4})
			wantDelete(t, p, m, asks)
		}
	}
	m.Slots.Keys[0] = greatest
	wantAllRefused(t, m, api.ErrOrder, "turned so that it falls")
	m.Slots.Seg = 3
	wantAllRefused(t, m, api.ErrBad, "turned so that its slots may not be")
	m.Config.Den = 0
	wantAllRefused(t, m, api.ErrConf, "turned so that its config may not be")
}

// P11.3, P11.4: a ledger that is near its greatest number goes on from 0, whichever way a step goes.
func TestLedgerRunsOver(t *testing.T) {
	for _, one := range samples(t) {
		for _, ahead := range []uint64{0, 1, 2, 3, 7, 15, 31, 63, 127} {
			p := one.p
			p.laid = allBits - ahead
			wantCheck(t, p.packed(), api.OK, "a great ledger")
			wantPut(t, p, p.packed(), api.Pair{Key: one.key, Val: 4})
			wantDelete(t, p, p.packed(), one.key)
		}
	}
}

// edges are numbers that may be handed in, at all ends.
func edges() []int {
	return []int{least, least + 1, -64, -1, 0, 1, 2, 4, 8, 9, 64, api.MaxMost + 1, api.MaxSlots, api.MaxSlots + 1, 1 << 32, greatest - 1, greatest}
}

// P1, P11.1: the edges in each field of a config, alone and by twos.
func TestEdgesOfConfigs(t *testing.T) {
	s := empty(8, 16, 0).spread(0, 16, threes(4)).packed()
	refused := 0
	for i := range numbersOf(growing()) {
		for j := range i + 1 {
			for _, a := range edges() {
				for _, b := range edges() {
					c := growing()
					*fields(&c)[i], *fields(&c)[j] = a, b
					got, e := New(c)
					if e == api.OK {
						wantMap(t, got, e, plain{c, empty(c.Seg, c.Least, 0)}, "New", c)
						continue
					}
					refused++
					wantRefused(t, got, e, api.ErrConf, "New", c)
					wantAllRefused(t, api.Pma{Config: c, Slots: s}, api.ErrConf, "edges")
				}
			}
		}
	}
	if refused < 1000 {
		t.Errorf("%d configs were refused", refused)
	}
}

// P1, P11.1: the edges in the numbers of an array, alone and together.
func TestEdgesOfArrays(t *testing.T) {
	p := loaded(growing(), threes(4))
	for _, a := range edges() {
		for _, b := range edges() {
			m := p.packed()
			if a != 8 {
				m.Slots.Seg = a
				wantAllRefused(t, m, api.ErrBad, "a segment")
			}
			m = p.packed()
			if a != 2 || b != 2 {
				m.Slots.Counts[0], m.Slots.Counts[1] = a, b
				wantAllRefused(t, m, api.ErrBad, "counts")
			}
			m = p.packed()
			if a != 0 || b != 0 {
				m.Slots.Keys[1], m.Slots.Vals[15] = int64(a), int64(b)
				wantAllRefused(t, m, api.ErrBad, "gaps")
			}
			wantPut(t, p, p.packed(), api.Pair{Key: int64(a), Val: int64(b)})
			wantDelete(t, p, p.packed(), int64(a))
		}
	}
}

// walk is a map under way: the program's, the plain one, and its pairs told by themselves.
type walk struct {
	t    *testing.T
	m    api.Pma
	p    plain
	vals map[int64]int64
}

func walkIn(t *testing.T, c api.Config, laid uint64) *walk {
	t.Helper()
	m, e := New(c)
	m.Slots.Laid = laid
	if e != api.OK {
		t.Fatalf("New(%v): %d", c, int(e))
	}
	return &walk{t: t, m: m, p: plain{c, empty(c.Seg, c.Least, laid)}, vals: map[int64]int64{}}
}

// keys are those of the map, in order.
func (w *walk) keys() []int64 {
	var l []int64
	for key := range w.vals {
		l = append(l, key)
	}
	slices.Sort(l)
	return l
}

// hold asks P11.6 of what a step answered: it may be, it has the keys that there should be, and no others.
func (w *walk) hold(m api.Pma, e api.Errno, want plain, what string, key int64) {
	w.t.Helper()
	if e != api.OK || !alike(m, want.packed()) {
		w.t.Fatalf("%s of %d of %v: %v, %d; want %v", what, key, w.m, m, int(e), want.packed())
	}
	if e = Check(m); e != api.OK {
		w.t.Fatalf("%s of %d of %v: %v may not be: %d", what, key, w.m, m, int(e))
	}
	wantSize(w.t, m, len(w.vals), what)
	w.m, w.p = m, want
}

// ask asks for each key of the map, or some, and those beside them.
func (w *walk) ask() {
	w.t.Helper()
	for _, key := range beside(someOf(w.keys())) {
		if val, is := w.vals[key]; is {
			wantVal(w.t, w.m, key, val, "a key that stays")
		} else {
			wantNoVal(w.t, w.m, key, api.ErrNone, "a key that is not there")
		}
	}
}

func (w *walk) put(key, val int64) {
	w.t.Helper()
	_, had := w.vals[key]
	m, e := Put(w.m, key, val)
	if !had && len(w.vals) == w.p.c.Most {
		wantRefused(w.t, m, e, api.ErrFull, "Put behind Most", key)
		return
	}
	want, _ := w.p.put(api.Pair{Key: key, Val: val})
	w.vals[key] = val
	w.hold(m, e, want, "Put", key)
	wantVal(w.t, m, key, val, "put")
}

func (w *walk) delete(key int64) {
	w.t.Helper()
	m, e := Delete(w.m, key)
	if _, had := w.vals[key]; !had {
		wantRefused(w.t, m, e, api.ErrNone, "Delete", key)
		return
	}
	want, _ := w.p.delete(key)
	delete(w.vals, key)
	w.hold(m, e, want, "Delete", key)
	wantNoVal(w.t, m, key, api.ErrNone, "deleted")
}

// keyRows are rules by which n keys come and go: upward, downward, from both ends, amid all, and mixed.
func keyRows() []func(i, n int) int64 {
	return []func(i, n int) int64{
		func(i, n int) int64 { return least + int64(i) },
		func(i, n int) int64 { return greatest - int64(i) },
		func(i, n int) int64 { return int64(1-i%2*2) * int64(n-i) },
		func(i, n int) int64 { return int64(1-i%2*2) * int64(i+1) },
		func(i, n int) int64 { return int64(bits.Reverse64(uint64(i))) },
		func(i, n int) int64 { return int64(uint64(i) * 0x9e3779b97f4a7c15) },
	}
}

// P11.6: rows that fill a map with Most keys, and empty it again, each by each rule.
func TestFillAndEmpty(t *testing.T) {
	for i, c := range append(named(), mixedConfigs(20, 90, 19)...) {
		c.Most = min(c.Most, 110)
		rows := keyRows()
		for j, come := range rows {
			w := walkIn(t, c, allBits-60)
			for n := range c.Most {
				w.put(come(n, c.Most), int64(n*n-i))
			}
			w.ask()
			w.put(come(c.Most, c.Most)+1<<20, 5)
			leave := rows[(j*5+2)%len(rows)]
			left := make([]int64, c.Most)
			for k := range left {
				left[k] = leave(k, c.Most)
			}
			keys := w.keys()
			sorted := slices.Sorted(slices.Values(left))
			for _, key := range left {
				k, _ := slices.BinarySearch(sorted, key)
				w.delete(keys[k])
			}
			if len(w.m.Slots.Keys) != c.Least || len(w.vals) != 0 {
				t.Errorf("a map that was emptied: %v", w.m)
			}
		}
	}
}

// P11.6: rows of steps of all kinds among few keys and many, in phases that fill, empty and do both; what is refused turns nothing.
func TestMixedRows(t *testing.T) {
	grown, halved := 0, 0
	for i, c := range append(append(named(), named()...), mixedConfigs(40, 200, 20)...) {
		next := mixer(uint64(i) + 31)
		w := walkIn(t, c, uint64(i))
		keys := keyRows()[next(6)]
		gain := 0
		for step := range 360 {
			if step%45 == 0 {
				// Fillings and emptyings by turns, each more or less so.
				gain = 1 + next(3) + 7*(1-step/45%2)
				w.ask()
			}
			size, among := len(w.m.Slots.Keys), 2+c.Most+c.Most/4
			key := keys(next(among), among)
			if next(10) < gain {
				w.put(key, valOf(step, next))
			} else if have := w.keys(); len(have) > 0 && next(4) > 0 {
				w.delete(have[next(len(have))])
			} else {
				w.delete(key)
			}
			if len(w.m.Slots.Keys) > size {
				grown++
			} else if len(w.m.Slots.Keys) < size {
				halved++
			}
		}
	}
	if grown < 40 || halved < 15 {
		t.Errorf("%d maps grew, and %d were halved", grown, halved)
	}
}

// P11.1 to P11.6 where sizes are at their limits: Most keys, and the greatest capacity.
func TestWidest(t *testing.T) {
	c := widest()
	for _, n := range []int{4095, 4096, 8191, 8192, 8193, api.MaxMost - 1, api.MaxMost} {
		p := loaded(c, threes(n))
		m := p.packed()
		if e := Check(m); e != api.OK {
			t.Fatalf("Check of %d: %d", n, int(e))
		}
		wantSize(t, m, n, "widest")
		for _, key := range []int64{least, 1, 2, greatest} {
			wantPut(t, p, m, api.Pair{Key: key, Val: 5})
		}
		for _, key := range []int64{p.all()[0].Key, 0, p.all()[n-1].Key} {
			wantPut(t, p, m, api.Pair{Key: key, Val: 5})
			wantDelete(t, p, m, key)
			wantDelete(t, p, m, key+1)
		}
	}
	p := scattered(c, 32768, 4095, mixer(29))
	key := p.all()[2000].Key
	wantDelete(t, p, p.packed(), key)
	if m, _ := Delete(p.packed(), key); len(m.Slots.Keys) != 16384 {
		t.Errorf("half of the greatest capacity: %d", len(m.Slots.Keys))
	}
}
