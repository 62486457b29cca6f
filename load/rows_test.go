package load

import (
	"maps"
	"slices"
	"testing"

	"shelfmark/api"
	"shelfmark/gap"
	"shelfmark/pma"
)

// asked is what all calls are asked with: two maps, pairs, and the ends of a range.
type asked struct {
	m, o     api.Pma
	l        []api.Pair
	from, to int64
}

// answered is what they answer.
type answered struct {
	maps  []api.Pma
	pairs []api.Pair
	many  int
	e     [5]api.Errno
}

func (a asked) answers() answered {
	var out answered
	var loaded, left, merged, rebuilt api.Pma
	loaded, out.e[0] = Load(a.m, a.l)
	out.pairs, out.e[1] = Pairs(a.m)
	left, out.many, out.e[2] = Range(a.m, a.from, a.to)
	merged, out.e[3] = Merge(a.m, a.o)
	rebuilt, out.e[4] = Rebuild(a.m)
	out.maps = []api.Pma{loaded, left, merged, rebuilt}
	return out
}

func (a answered) same(b answered) bool {
	return slices.EqualFunc(a.maps, b.maps, alike) && slices.Equal(a.pairs, b.pairs) && a.many == b.many && a.e == b.e
}

// tight is a in new memory, without room behind its lists.
func (a asked) tight() asked {
	a.m, a.o, a.l = copied(a.m), copied(a.o), slices.Clip(slices.Clone(a.l))
	return a
}

// roomy is a in new memory, with room behind its lists, in which something stands.
func (a asked) roomy() asked {
	a = a.tight()
	a.m, a.o = roomy(a.m), roomy(a.o)
	a.l = append(a.l, api.Pair{Key: greatest, Val: 1}, api.Pair{Key: least, Val: 2}, api.Pair{})[:len(a.l)]
	return a
}

// whole is a with the room behind its lists.
func (a asked) whole() asked {
	a.m, a.o, a.l = whole(a.m), whole(a.o), a.l[:cap(a.l)]
	return a
}

func (a asked) same(b asked) bool {
	return alike(a.m, b.m) && alike(a.o, b.o) && slices.Equal(a.l, b.l)
}

// questions ask all calls for something that is answered, where m and o may be.
func questions() []asked {
	var l []asked
	for i, c := range named() {
		next := mixer(uint64(i) + 50)
		for _, size := range capacities(c) {
			p := scattered(c, size, counts(c, size, next)[5], next)
			keys := keysOf(p.all())
			q := loaded(c, p.all()[len(keys)/3:2*len(keys)/3])
			a := asked{m: p.packed(), o: q.packed(), l: threes(next(c.Most + 1)), from: 0, to: greatest}
			l = append(l, a)
			a.from, a.to = 1, 0
			l = append(l, a)
			a.m, a.o = a.o, a.m
			a.l = p.all()
			l = append(l, a)
			a.m, a.o, a.l = loaded(c, nil).packed(), loaded(c, nil).packed(), nil
			l = append(l, a)
		}
	}
	return l
}

// P13.4: what is handed in is only read, refused or not, and so is the room behind its lists, which is not asked either.
func TestOnlyRead(t *testing.T) {
	full := loaded(growing(), threes(64))
	others := []api.Pma{{}, full.packed(), plain{full.c, full.with(9, least)}.packed(), {Config: badConfigs()["half"], Slots: full.array.packed()}}
	for _, bad := range spoilt(full.array)[13:] {
		others = append(others, api.Pma{Config: full.c, Slots: bad.s})
	}
	for _, one := range questions() {
		all := []asked{one}
		for _, l := range [][]api.Pair{{{Key: 3}, {Key: 2}}, {{Key: 2}, {Key: 2}}, threes(600)} {
			other := one
			other.l = l
			all = append(all, other)
		}
		for _, m := range others {
			first, second := one, one
			first.m, second.o = m, m
			all = append(all, first, second)
		}
		for _, a := range all {
			want := a.tight().answers()
			handed := a.roomy()
			before := handed.whole().tight()
			if got := handed.answers(); !got.same(want) {
				t.Fatalf("answers of %v hang on the room behind its lists", a)
			}
			if !handed.whole().same(before) {
				t.Fatalf("what was handed in was turned: %v", a)
			}
		}
	}
}

// P13.4: one map handed in twice is read twice.
func TestMergeWithItself(t *testing.T) {
	for _, one := range questions() {
		m := roomy(one.m)
		before := copied(whole(m))
		got, e := Merge(m, m)
		want, f := Rebuild(one.m)
		if e != api.OK || f != api.OK || !alike(got, want) || !alike(whole(m), before) {
			t.Errorf("%v with itself: %v, %d; want %v", one.m, got, int(e), want)
		}
		turnAll(got)
		if !alike(whole(m), before) {
			t.Errorf("what was merged of %v twice is what was handed in", one.m)
		}
	}
}

// P13.4: turning what was answered turns neither what was handed in nor another answer; turning what was handed in turns no answer.
func TestNewMemory(t *testing.T) {
	for _, one := range questions() {
		want := one.tight().answers()
		handed := one.roomy()
		before := handed.whole().tight()
		first, second := handed.answers(), handed.answers()
		turnPairs(first.pairs)
		for i := range first.maps {
			if !alike(first.maps[i], want.maps[i]) {
				t.Fatalf("answer %d of %v shares memory with others", i, one)
			}
			turnAll(first.maps[i])
			if !handed.whole().same(before) {
				t.Fatalf("answer %d of %v is what was handed in", i, one)
			}
		}
		if !second.same(want) {
			t.Fatalf("answers of %v share memory with those ahead", one)
		}
		turnAll(handed.m)
		turnAll(handed.o)
		turnPairs(handed.l)
		if !second.same(want) {
			t.Fatalf("answers of %v turn with what was handed in", one)
		}
	}
}

func turnPairs(l []api.Pair) {
	l = l[:cap(l)]
	for i := range l {
		l[i] = api.Pair{Key: ^l[i].Key, Val: ^l[i].Val}
	}
}

// P13.4: the lists of one answer that could share memory, keys and values, share none.
func TestListsShareNothing(t *testing.T) {
	for _, one := range questions() {
		for i, m := range one.answers().maps {
			vals := slices.Clone(m.Slots.Vals)
			turnEach(m.Slots.Keys, -1)
			if !slices.Equal(m.Slots.Vals, vals) {
				t.Errorf("keys and values of answer %d share memory", i)
			}
		}
	}
}

// P13.4: no call keeps anything: maps and pairs that were turned in their memory answer as what they are then.
func TestNothingKept(t *testing.T) {
	p, q := loaded(example(), threes(4)), loaded(growing(), threes(3))
	m, l := p.packed(), threes(4)
	for k, key := range []int64{-9, -2, 1, greatest} {
		p.array = p.with(k, key)
		copy(m.Slots.Keys, p.packed().Slots.Keys)
		l[k].Key = key
		wantPairs(t, m, p.all(), "turned")
		wantRebuild(t, p, m)
		wantLoad(t, p, m, l)
		for _, from := range beside(keysOf(p.all())) {
			wantRange(t, p, m, from, greatest)
		}
		got, e := Merge(m, q.packed())
		wantMap(t, got, e, p.anew(together(p.all(), q.all())), "Merge of what was turned")
		got, e = Merge(q.packed(), m)
		wantMap(t, got, e, q.anew(together(q.all(), p.all())), "Merge with what was turned")
	}
	m.Slots.Keys[0] = greatest
	wantAllRefused(t, m, api.ErrOrder, "turned so that it falls")
	m.Slots.Seg = 3
	wantAllRefused(t, m, api.ErrBad, "turned so that its slots may not be")
	m.Config.Den = 0
	wantAllRefused(t, m, api.ErrConf, "turned so that its config may not be")
}

// P13.1 to P13.3: a ledger that is near its greatest number goes on from 0; that of the second map is not asked.
func TestLedgerRunsOver(t *testing.T) {
	p, q := loaded(growing(), threes(20)), loaded(growing(), threes(9))
	for _, ahead := range []uint64{0, 1, 7, 18, 19, 20, 21, 1 << 63, allBits} {
		p.laid, q.laid = allBits-ahead, allBits/2+ahead
		m := p.packed()
		wantLoad(t, p, m, threes(20))
		wantRebuild(t, p, m)
		wantRange(t, p, m, greatest, least)
		wantRange(t, p, m, 0, 0)
		wantMerge(t, p, q)
		wantMerge(t, p, p)
	}
}

// edges are numbers that may be handed in, at all ends.
func edges() []int {
	return []int{least, -64, -1, 0, 1, 2, 4, 8, 9, 64, api.MaxMost + 1, api.MaxSlots, api.MaxSlots + 1, 1 << 32, greatest}
}

// P1: the edges in each field of a config: where it may not be, and where it may, and the slots are its own or not.
func TestEdgesOfConfigs(t *testing.T) {
	p := loaded(growing(), threes(4))
	refused := 0
	for i := range numbersOf(p.c) {
		for _, a := range edges() {
			m := p.packed()
			*fields(&m.Config)[i] = a
			e := pma.Check(m)
			if e != api.OK {
				refused++
				wantAllRefused(t, m, e, "edges")
				continue
			}
			turned := plain{m.Config, p.array}
			wantPairs(t, m, p.all(), "edges")
			wantRebuild(t, turned, m)
			wantRange(t, turned, m, 0, 0)
			wantMerge(t, turned, p)
			wantMerge(t, p, turned)
		}
	}
	if refused < 80 {
		t.Errorf("%d configs were refused", refused)
	}
}

// fields are the numbers of c.
func fields(c *api.Config) []*int {
	return []*int{&c.Most, &c.Seg, &c.Least, &c.Den, &c.LeafLow, &c.RootLow, &c.RootHigh, &c.LeafHigh}
}

// P1: the edges in the numbers of an array.
func TestEdgesOfArrays(t *testing.T) {
	p := loaded(growing(), threes(4))
	for _, a := range edges() {
		m := p.packed()
		if a != 8 {
			m.Slots.Seg = a
			wantAllRefused(t, m, api.ErrBad, "a segment")
		}
		m = p.packed()
		if a != 2 {
			m.Slots.Counts[1] = a
			wantAllRefused(t, m, api.ErrBad, "a count")
		}
		m = p.packed()
		if a != 0 {
			m.Slots.Keys[1] = int64(a)
			wantAllRefused(t, m, api.ErrBad, "a key in a gap")
		}
		for _, b := range edges() {
			wantRange(t, p, p.packed(), int64(a), int64(b))
		}
	}
}

// walk is a map under way, told by its own answers alone: the program's, and its pairs as a table.
type walk struct {
	t    *testing.T
	m    api.Pma
	vals map[int64]int64
}

// sorted are the pairs of a table, in order.
func sorted(vals map[int64]int64) []api.Pair {
	var l []api.Pair
	for _, key := range slices.Sorted(maps.Keys(vals)) {
		l = append(l, api.Pair{Key: key, Val: vals[key]})
	}
	return l
}

// hold asks of what a bulk step answered: it may be, its array is that of gap.Load, and it has the pairs that there should be, and no others.
func (w *walk) hold(m api.Pma, e api.Errno, vals map[int64]int64, what string) {
	w.t.Helper()
	l := sorted(vals)
	if e != api.OK {
		w.t.Fatalf("%s of %v: %d", what, w.m, int(e))
	}
	if e = pma.Check(m); e != api.OK {
		w.t.Fatalf("%s of %v: %v may not be: %d", what, w.m, m, int(e))
	}
	s, e := gap.Load(w.m.Config, w.m.Slots, l)
	if e != api.OK || !alike(m, api.Pma{Config: w.m.Config, Slots: s}) {
		w.t.Fatalf("%s of %v: %v; want %v", what, w.m, m, s)
	}
	wantPairs(w.t, m, l, what)
	w.m, w.vals = m, vals
	w.ask()
}

// ask asks for each key of the map, or some, and those beside them.
func (w *walk) ask() {
	w.t.Helper()
	for _, key := range beside(someOf(keysOf(sorted(w.vals)))) {
		want, is := w.vals[key]
		if val, e := pma.Get(w.m, key); val != want || (e == api.OK) != is {
			w.t.Errorf("Get(%d) = %d, %d; want %d, %v", key, val, int(e), want, is)
		}
	}
}

// refused asks that a step was refused since there were too many pairs.
func (w *walk) refused(m api.Pma, e api.Errno, many int, what string) bool {
	w.t.Helper()
	if many <= w.m.Config.Most {
		return false
	}
	wantRefused(w.t, m, e, api.ErrFull, what, many)
	return true
}

// load loads pairs; they are its pairs then.
func (w *walk) load(vals map[int64]int64) {
	w.t.Helper()
	m, e := Load(w.m, sorted(vals))
	if !w.refused(m, e, len(vals), "Load") {
		w.hold(m, e, vals, "Load")
	}
}

// cut takes the keys between two out, and none else.
func (w *walk) cut(from, to int64) {
	w.t.Helper()
	vals := maps.Clone(w.vals)
	maps.DeleteFunc(vals, func(key, _ int64) bool { return key >= from && key <= to })
	m, n, e := Range(w.m, from, to)
	if want := len(w.vals) - len(vals); n != want {
		w.t.Fatalf("Range of %d to %d: %d went; want %d", from, to, n, want)
	}
	w.hold(m, e, vals, "Range")
}

// merge puts another map in, whose values are over those that were there.
func (w *walk) merge(o api.Pma, others map[int64]int64) {
	w.t.Helper()
	vals := maps.Clone(w.vals)
	maps.Copy(vals, others)
	m, e := Merge(w.m, o)
	if !w.refused(m, e, len(vals), "Merge") {
		w.hold(m, e, vals, "Merge")
	}
}

// rebuild lays all anew: the pairs are the same, and of what was rebuilt, those of what is rebuilt again.
func (w *walk) rebuild() {
	w.t.Helper()
	m, e := Rebuild(w.m)
	w.hold(m, e, w.vals, "Rebuild")
}

// turn puts keys one by one, and deletes others, so that the map is no longer even.
func (w *walk) turn(next func(int) int, among int) {
	for range 12 {
		key, val := int64(next(among)-among/2), int64(next(99))
		if m, e := pma.Put(w.m, key, val); e == api.OK {
			w.m = m
			w.vals[key] = val
		}
		key = int64(next(among) - among/2)
		if m, e := pma.Delete(w.m, key); e == api.OK {
			w.m = m
			delete(w.vals, key)
		}
	}
}

// P13.5: rows of steps of all kinds: what is answered may be, what is loaded are its pairs, what is between goes and nothing else, merged keys have the values of the second.
func TestMixedRows(t *testing.T) {
	for i, c := range append(append(named(), named()...), mixedConfigs(30, 200, 20)...) {
		next := mixer(uint64(i) + 61)
		m, e := pma.New(c)
		if e != api.OK {
			t.Fatal(e)
		}
		w := &walk{t: t, m: m, vals: map[int64]int64{}}
		among := 2 + c.Most + c.Most/4
		other := &walk{t: t, m: loaded(growing(), nil).packed(), vals: map[int64]int64{}}
		for range 40 {
			switch next(8) {
			case 0:
				vals := map[int64]int64{}
				for range next(c.Most + 2) {
					vals[int64(next(among)-among/2)] = int64(next(99))
				}
				w.load(vals)
			case 1, 2:
				from := int64(next(among) - among/2)
				w.cut(from, from+int64(next(among/4+2))-1)
			case 3, 4, 5:
				other.turn(next, among)
				w.merge(other.m, other.vals)
			case 6:
				w.rebuild()
				w.rebuild()
			default:
				w.turn(next, among)
			}
		}
	}
}

// P13.5: a map parted at a key and merged again has the pairs that it had; merging is told by keys alone, not by which part is the first.
func TestPartedAndMerged(t *testing.T) {
	everyMap(t, append(named(), mixedConfigs(15, 200, 21)...), 1, func(p plain, m api.Pma) {
		l, e := Pairs(m)
		if e != api.OK {
			t.Fatal(e)
		}
		for _, key := range beside(someOf(keysOf(l))) {
			if key == greatest || key%5 > 0 {
				continue
			}
			high, n, e := Range(m, least, key)
			low, k, f := Range(m, key+1, greatest)
			if e != api.OK || f != api.OK || n+k != len(l) {
				t.Errorf("parts at %d of %v: %d and %d went, errors %d, %d", key, m, n, k, int(e), int(f))
			}
			for _, parts := range [][2]api.Pma{{low, high}, {high, low}, {m, low}, {high, m}} {
				whole, e := Merge(parts[0], parts[1])
				if e != api.OK {
					t.Errorf("Merge of parts: %d", int(e))
				}
				wantPairs(t, whole, l, "parts")
			}
		}
	})
}
