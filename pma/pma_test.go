package pma

import (
	"fmt"
	"slices"
	"testing"

	"shelfmark/api"
)

func TestExamples(t *testing.T) {
	c := example()
	m, e := New(c)
	wantMap(t, m, e, plain{c, empty(4, 16, 0)}, "New")
	m, e = Put(m, 5, 50)
	want := api.Pma{Config: c, Slots: api.Slots{Seg: 4, Words: []uint64{1}, Keys: make([]int64, 16), Vals: make([]int64, 16), Counts: []int{1, 0, 0, 0}, Laid: 1}}
	want.Slots.Keys[0], want.Slots.Vals[0] = 5, 50
	if e != api.OK || !alike(m, want) {
		t.Errorf("Put of 5: %v, %d", m, int(e))
	}
	m, e = Put(m, 9, 90)
	want.Slots.Words[0], want.Slots.Counts[0], want.Slots.Laid = 5, 2, 3
	want.Slots.Keys[2], want.Slots.Vals[2] = 9, 90
	if e != api.OK || !alike(m, want) {
		t.Errorf("Put of 9: %v, %d", m, int(e))
	}
	wantVal(t, m, 9, 90, "the example")
	wantVal(t, m, 5, 50, "the example")
	wantNoVal(t, m, 6, api.ErrNone, "the example")
	m, e = Delete(m, 5)
	if e != api.OK {
		t.Errorf("Delete of 5: %d", int(e))
	}
	wantSize(t, m, 1, "the example")
	wantVal(t, m, 9, 90, "behind the other one")
	wantNoVal(t, m, 5, api.ErrNone, "deleted")
}

// turned is c with one thing turned.
func turned(c api.Config, turn func(c *api.Config)) api.Config {
	turn(&c)
	return c
}

// badConfigs break the conditions of a config, most of them one alone.
func badConfigs() map[string]api.Config {
	small, wide := growing(), widest()
	return map[string]api.Config{
		"nothing":         {},
		"tag 0":           turned(small, func(c *api.Config) { c.Tag = 0 }),
		"tag 4":           turned(small, func(c *api.Config) { c.Tag = 4 }),
		"tag 255":         turned(small, func(c *api.Config) { c.Tag = 255 }),
		"most 0":          turned(small, func(c *api.Config) { c.Most = 0 }),
		"most -1":         turned(small, func(c *api.Config) { c.Most = -1 }),
		"most least":      turned(small, func(c *api.Config) { c.Most = least }),
		"most above":      turned(wide, func(c *api.Config) { c.Most++ }),
		"heights":         turned(small, func(c *api.Config) { c.Most++ }),
		"heights again":   turned(example(), func(c *api.Config) { c.Most++ }),
		"seg 0":           turned(small, func(c *api.Config) { c.Seg = 0 }),
		"seg 2":           turned(small, func(c *api.Config) { c.Seg = 2 }),
		"seg no power":    turned(wide, func(c *api.Config) { c.Seg = 48 }),
		"seg above":       turned(wide, func(c *api.Config) { c.Seg = 128 }),
		"least no power":  turned(wide, func(c *api.Config) { c.Least = 192 }),
		"least below seg": turned(wide, func(c *api.Config) { c.Least = 32 }),
		"least above":     turned(wide, func(c *api.Config) { c.Least = 512 }),
		"den 0":           turned(small, func(c *api.Config) { c.Den = 0 }),
		"den above":       turned(wide, func(c *api.Config) { c.Den, c.RootHigh = 65, 33 }),
		"leaf low -1":     turned(small, func(c *api.Config) { c.LeafLow = -1 }),
		"leaf low":        turned(small, func(c *api.Config) { c.LeafLow = c.RootLow }),
		"root high":       turned(flat(), func(c *api.Config) { c.RootHigh = c.LeafHigh }),
		"leaf high":       turned(wide, func(c *api.Config) { c.LeafHigh++ }),
		"half":            turned(wide, func(c *api.Config) { c.RootHigh-- }),
		"eighth":          turned(wide, func(c *api.Config) { c.RootLow++ }),
		"two":             turned(wide, func(c *api.Config) { c.LeafLow, c.RootLow, c.Least = 0, 1, 64 }),
	}
}

// P11.1: a config that may not be is told ahead of slots that are not its config's, of keys that fall, and of keys that are there, or not.
func TestConfigRefused(t *testing.T) {
	next := mixer(3)
	some := scattered(growing(), 64, 32, next).array
	arrays := []api.Slots{{}, empty(8, 16, 0).packed(), empty(4, 16, 0).packed(), empty(64, 256, 5).packed(), some.packed(), some.with(3, greatest).packed()}
	for _, bad := range spoilt(some) {
		arrays = append(arrays, bad.s)
	}
	for why, c := range badConfigs() {
		got, e := New(c)
		wantRefused(t, got, e, api.ErrConf, "New", why, c)
		for _, s := range arrays {
			wantAllRefused(t, api.Pma{Config: c, Slots: s}, api.ErrConf, why)
		}
	}
}

// P11.1: the map of each config without pairs, which may be.
func TestNew(t *testing.T) {
	for _, c := range append(append(named(), widest()), mixedConfigs(100, api.MaxMost, 4)...) {
		m, e := New(c)
		wantMap(t, m, e, plain{c, empty(c.Seg, c.Least, 0)}, "New", c)
		wantCheck(t, m, api.OK, "New")
		wantSize(t, m, 0, "New")
		for _, key := range []int64{least, -1, 0, 1, greatest} {
			wantNoVal(t, m, key, api.ErrNone, "New")
			got, e := Delete(m, key)
			wantRefused(t, got, e, api.ErrNone, "Delete", key)
		}
	}
}

// spoiltOne is an array that may not be, and why.
type spoiltOne struct {
	why string
	s   api.Slots
}

// spoilt are arrays that may not be, each by one thing alone.
func spoilt(p array) []spoiltOne {
	var l []spoiltOne
	spoil := func(why string, turn func(s *api.Slots)) {
		s := p.packed()
		turn(&s)
		l = append(l, spoiltOne{why, s})
	}
	n := len(p.cells)
	for _, seg := range []int{0, 1, 2, 3, 5, 12, p.seg + 1, p.seg - 1, 128, -4, -p.seg, least, greatest} {
		spoil("a segment that may not be", func(s *api.Slots) { s.Seg = seg })
	}
	spoil("a slot less", func(s *api.Slots) { s.Keys, s.Vals = s.Keys[:n-1], s.Vals[:n-1] })
	spoil("a slot more", func(s *api.Slots) { s.Keys, s.Vals = append(s.Keys, 0), append(s.Vals, 0) })
	spoil("half of the slots", func(s *api.Slots) { s.Keys, s.Vals = s.Keys[:n/2], s.Vals[:n/2] })
	spoil("no slots", func(s *api.Slots) { s.Words, s.Keys, s.Vals, s.Counts = nil, nil, nil, nil })
	spoil("a key less", func(s *api.Slots) { s.Keys = s.Keys[:n-1] })
	spoil("a value less", func(s *api.Slots) { s.Vals = s.Vals[:n-1] })
	spoil("a value more", func(s *api.Slots) { s.Vals = append(s.Vals, 0) })
	spoil("no values", func(s *api.Slots) { s.Vals = nil })
	spoil("no words", func(s *api.Slots) { s.Words = nil })
	spoil("a word more", func(s *api.Slots) { s.Words = append(s.Words, 0) })
	spoil("no counts", func(s *api.Slots) { s.Counts = nil })
	spoil("a count more", func(s *api.Slots) { s.Counts = append(s.Counts, 0) })
	spoil("a count less", func(s *api.Slots) { s.Counts = s.Counts[:len(s.Counts)-1] })
	for _, by := range []int{1, -1, p.seg, least} {
		spoil("a count that is wrong", func(s *api.Slots) { s.Counts[len(s.Counts)-1] += by })
	}
	if len(p.packed().Counts) > 1 {
		spoil("counts that add up, and are wrong", func(s *api.Slots) { s.Counts[0]++; s.Counts[1]-- })
	}
	if n < 64 {
		spoil("a bit beyond the slots", func(s *api.Slots) { s.Words[0] |= 1 << uint(n) })
	}
	spoil("a bit that is not counted", func(s *api.Slots) { s.Words[0] ^= 1 })
	if gap := slices.Index(p.cells, nil); gap >= 0 {
		spoil("a key in a gap", func(s *api.Slots) { s.Keys[gap] = 1 })
		spoil("a value in a gap", func(s *api.Slots) { s.Vals[gap] = least })
	}
	return l
}

// P11.1: an array that may not be is told ahead of keys that fall, of Most keys, and of keys that are there, or not.
func TestBadArrayRefused(t *testing.T) {
	for _, c := range named() {
		next := mixer(9)
		for _, size := range capacities(c) {
			for _, n := range counts(c, size, next) {
				p := scattered(c, size, n, next).array
				arrays := []array{p}
				if n > 1 {
					arrays = append(arrays, p.with(n-1, least), p.with(0, p.all()[1].Key))
				}
				for _, p := range arrays {
					for _, bad := range spoilt(p) {
						wantAllRefused(t, api.Pma{Config: c, Slots: bad.s}, api.ErrBad, bad.why)
					}
				}
			}
		}
		for _, s := range []api.Slots{{}, {Seg: c.Seg}, {Seg: c.Seg, Words: []uint64{}, Keys: []int64{}, Vals: []int64{}, Counts: []int{}}} {
			wantAllRefused(t, api.Pma{Config: c, Slots: s}, api.ErrBad, "nothing")
		}
	}
}

// P11.1: slots that may be, and are another config's: by Seg, by their number, by more pairs than Most.
func TestOtherConfigRefused(t *testing.T) {
	for _, c := range append(named(), mixedConfigs(30, 400, 6)...) {
		all := capacities(c)
		for seg := api.MinSeg; seg <= api.MaxSeg; seg *= 2 {
			for size := max(seg, all[0]/4); size <= 4*all[len(all)-1]; size *= 2 {
				for _, n := range []int{0, c.Most / 3, c.Most, c.Most + 1} {
					if n > size {
						continue
					}
					m := plain{c, empty(seg, size, 1).spread(0, size, threes(n))}
					if seg != c.Seg || !slices.Contains(all, size) || n > c.Most || len(m.wrong()) > 0 {
						wantAllRefused(t, m.packed(), api.ErrBad, fmt.Sprintf("%d pairs in %d slots by %d", n, size, seg))
						continue
					}
					wantCheck(t, m.packed(), api.OK, "a config's")
					wantSize(t, m.packed(), n, "a config's")
				}
			}
		}
	}
}

// P11.1: windows with pairs too many, or too few, of maps in which slots were turned; and keys that rise stay in order then.
func TestWindowsRefused(t *testing.T) {
	held, broken := 0, 0
	everyMap(t, append(named(), mixedConfigs(30, 300, 10)...), 1, func(p plain, m api.Pma) {
		wantCheck(t, m, api.OK, "scattered")
		next := mixer(uint64(p.count(0, len(p.cells))) + p.laid)
		for range 4 {
			p.array = p.occupiedAnew(1+next(4), next)
			if p.count(0, len(p.cells)) > p.c.Most || len(p.wrong()) > 0 {
				broken++
				wantAllRefused(t, p.packed(), api.ErrBad, "turned")
				continue
			}
			held++
			wantCheck(t, p.packed(), api.OK, "turned")
			wantSize(t, p.packed(), p.count(0, len(p.cells)), "turned")
		}
	})
	if held < 300 || broken < 300 {
		t.Errorf("%d maps held, and %d didn't", held, broken)
	}
}

// occupiedAnew is p in which many slots are turned over, and keys rise again.
func (p array) occupiedAnew(many int, next func(int) int) array {
	p.cells = slices.Clone(p.cells)
	for range many {
		at := next(len(p.cells))
		if p.cells[at] == nil {
			p.cells[at] = &api.Pair{Val: 3}
		} else {
			p.cells[at] = nil
		}
	}
	for at, x := range p.cells {
		if x != nil {
			p.cells[at] = &api.Pair{Key: int64(2 * at), Val: x.Val}
		}
	}
	return p
}

// P11.1: keys that don't rise at one place alone: alike there, or fallen; told ahead of Most keys, and of keys that are there, or not.
func TestOrderRefused(t *testing.T) {
	everyMap(t, append(named(), mixedConfigs(20, 200, 5)...), 1, func(p plain, m api.Pma) {
		l := p.all()
		for k := 1; k < len(l); k++ {
			if len(l) > 30 && k > 2 && k < len(l)-2 && k%29 > 0 {
				continue
			}
			for _, bad := range []array{p.with(k, l[k-1].Key), p.with(k-1, l[k].Key), p.with(k-1, l[k].Key).with(k, l[k-1].Key)} {
				wantAllRefused(t, plain{p.c, bad}.packed(), api.ErrOrder, fmt.Sprintf("a fall at %d", k))
			}
		}
	})
	full := loaded(growing(), threes(64))
	for _, key := range []int64{least, 0, greatest} {
		wantAllRefused(t, plain{full.c, full.with(63, least)}.packed(), api.ErrOrder, "a fall behind Most keys")
		got, e := Put(plain{full.c, full.with(0, greatest)}.packed(), key, 1)
		wantRefused(t, got, e, api.ErrOrder, "Put", key)
	}
}

// P11.1: Most keys may be; keys, values and ledgers are any numbers.
func TestMostMayBe(t *testing.T) {
	for _, c := range append(append(named(), mixedConfigs(40, 600, 7)...), turned(growing(), func(c *api.Config) { c.Most = 1 })) {
		for _, keys := range keyRules() {
			p := loaded(c, risingPairs(keys(c.Most), mixer(1)))
			for _, laid := range []uint64{0, 1, 1 << 63, allBits} {
				p.laid = laid
				wantCheck(t, p.packed(), api.OK, "Most")
				wantSize(t, p.packed(), c.Most, "Most")
			}
		}
	}
}

// P11.2: how many keys there are; each key that is there has its value, those beside them have none.
func TestSizeAndGet(t *testing.T) {
	everyMap(t, append(named(), mixedConfigs(60, 300, 11)...), 2, func(p plain, m api.Pma) {
		l := p.all()
		wantCheck(t, m, api.OK, "a map")
		wantSize(t, m, len(l), "a map")
		for _, key := range beside(someOf(keysOf(l))) {
			if at, is := p.find(key); is {
				wantVal(t, m, key, p.cells[at].Val, "a key")
			} else {
				wantNoVal(t, m, key, api.ErrNone, "no key")
			}
		}
	})
}

// P11.2: a gap's 0 is no key, and a key 0 is one, with a value 0 or another.
func TestZeros(t *testing.T) {
	c := example()
	for at := range 16 {
		for _, x := range []api.Pair{{Key: 0, Val: 0}, {Key: 0, Val: 7}, {Key: 7, Val: 0}, {Key: -7, Val: 0}} {
			p := plain{c, empty(4, 16, 0)}
			p.cells[at] = &x
			m := p.packed()
			wantVal(t, m, x.Key, x.Val, "one pair")
			wantSize(t, m, 1, "one pair")
			if x.Key != 0 {
				wantNoVal(t, m, 0, api.ErrNone, "gaps")
				got, e := Delete(m, 0)
				wantRefused(t, got, e, api.ErrNone, "Delete of a gap", x)
			}
			got, e := Put(m, 0, 5)
			want, _ := p.put(api.Pair{Key: 0, Val: 5})
			wantMap(t, got, e, want, "Put of 0", x, at)
		}
	}
}

// wantPut puts a pair, and answers which way it went.
func wantPut(t *testing.T, p plain, m api.Pma, x api.Pair) way {
	t.Helper()
	got, e := Put(m, x.Key, x.Val)
	if _, is := p.find(x.Key); !is && p.count(0, len(p.cells)) == p.c.Most {
		wantRefused(t, got, e, api.ErrFull, "Put", p.c, x, m)
		return way{true, 0, 0}
	}
	want, w := p.put(x)
	wantMap(t, got, e, want, "Put", p.c, x, w, m)
	return w
}

// P11.3: keys that are there, and new ones below all, above all and between, put into maps of all kinds; each way a new one may go is gone.
func TestPut(t *testing.T) {
	went := map[way]int{}
	ask := func(p plain, m api.Pma) {
		next := mixer(p.laid)
		for i, key := range beside(someOf(keysOf(p.all()))) {
			went[wantPut(t, p, m, api.Pair{Key: key, Val: valOf(i, next)})]++
		}
	}
	everyMap(t, named(), 3, ask)
	everyMap(t, mixedConfigs(40, 250, 12), 1, ask)
	if went[way{stays: true}] == 0 {
		t.Errorf("no key was put again")
	}
	for top := range 6 {
		for over := -1; over <= top; over++ {
			if went[way{false, over, top}] == 0 {
				t.Errorf("no key was put where height %d of %d is over", over, top)
			}
		}
	}
}

// P11.3: a key that is there keeps its slot and is laid once more, whatever its value: another one, the same, 0; also where there are Most keys.
func TestPutAgain(t *testing.T) {
	for _, c := range append(named(), mixedConfigs(30, 200, 13)...) {
		for _, n := range []int{1, 2, c.Most/2 + 1, c.Most} {
			if n > c.Most {
				continue
			}
			for _, keys := range keyRules() {
				p := loaded(c, risingPairs(keys(n), mixer(8)))
				p.laid = allBits - 1
				for _, key := range someOf(keysOf(p.all())) {
					at, _ := p.find(key)
					for _, val := range []int64{p.cells[at].Val, 0, least, greatest, -5} {
						m, e := Put(p.packed(), key, val)
						want := p.packed()
						want.Slots.Vals[at], want.Slots.Laid = val, allBits
						if e != api.OK || !alike(m, want) {
							t.Errorf("Put of %d, %d among %d keys of %v: %v, %d", key, val, n, c, m, int(e))
						}
						m, e = Put(m, key, val)
						want.Slots.Laid = 0
						if e != api.OK || !alike(m, want) {
							t.Errorf("Put of %d, %d again: %v, %d", key, val, m, int(e))
						}
					}
				}
			}
		}
	}
}

// P11.3: with one key less than Most one comes, and no new one behind it.
func TestMost(t *testing.T) {
	for _, c := range append(append(named(), mixedConfigs(40, 200, 15)...), turned(growing(), func(c *api.Config) { c.Most = 1 }), turned(growing(), func(c *api.Config) { c.Most = 33 })) {
		p := loaded(c, threes(c.Most-1))
		l := keysOf(p.all())
		for _, key := range []int64{least, 1, greatest} {
			x := api.Pair{Key: key, Val: 6}
			wantPut(t, p, p.packed(), x)
			full, _ := p.put(x)
			wantSize(t, full.packed(), c.Most, "Most")
			for _, other := range []int64{least + 1, -1, 1, 2, 4, greatest - 1} {
				if other == key {
					continue
				}
				got, e := Put(full.packed(), other, 7)
				wantRefused(t, got, e, api.ErrFull, "Put behind Most", c, other)
				wantNoVal(t, full.packed(), other, api.ErrNone, "Most")
				got, e = Delete(full.packed(), other)
				wantRefused(t, got, e, api.ErrNone, "Delete of Most", c, other)
			}
			for _, old := range append(someOf(l), key) {
				wantPut(t, full, full.packed(), api.Pair{Key: old, Val: 8})
			}
		}
	}
}

// P11.3, P11.4: each number of keys of small configs: a new key in each place, each key put again, and each deleted.
func TestEachPlace(t *testing.T) {
	for _, c := range []api.Config{example(), growing(), flat(), turned(growing(), func(c *api.Config) { c.Most = 57 })} {
		for n := range c.Most + 1 {
			p := loaded(c, threes(n))
			m := p.packed()
			first := int64(-3 * (n / 2))
			for key := first - 3; key < first+int64(3*n)+3; key++ {
				wantPut(t, p, m, api.Pair{Key: key, Val: key + 1})
				wantDelete(t, p, m, key)
			}
		}
	}
}

// wantDelete deletes a key, and answers which way that went; one that is not there stays.
func wantDelete(t *testing.T, p plain, m api.Pma, key int64) way {
	t.Helper()
	got, e := Delete(m, key)
	if _, is := p.find(key); !is {
		wantRefused(t, got, e, api.ErrNone, "Delete", p.c, key, m)
		return way{stays: true}
	}
	want, w := p.delete(key)
	wantMap(t, got, e, want, "Delete", p.c, key, w, m)
	return w
}

// P11.4: keys that are there, and those beside them, deleted from maps of all kinds; each way it may go is gone.
func TestDelete(t *testing.T) {
	went := map[way]int{}
	ask := func(p plain, m api.Pma) {
		for _, key := range beside(someOf(keysOf(p.all()))) {
			went[wantDelete(t, p, m, key)]++
		}
	}
	everyMap(t, named(), 3, ask)
	everyMap(t, mixedConfigs(40, 250, 14), 1, ask)
	for top := range 6 {
		for over := -1; over <= top; over++ {
			// Of height 0 all is a segment, and that is the least capacity: it never has too few.
			if went[way{false, over, top}] == 0 && (top > 0 || over < 0) {
				t.Errorf("no key was deleted where height %d of %d is under", over, top)
			}
		}
	}
}

// P11.3, P11.4: the first key, at the ends and amid, comes to the first slot; it is the last one that is deleted again, and the ledger stays.
func TestFirstAndLastKey(t *testing.T) {
	for _, c := range append(named(), mixedConfigs(60, 300, 16)...) {
		for _, x := range []api.Pair{{}, {Key: least, Val: greatest}, {Key: greatest, Val: least}, {Key: 0, Val: -1}} {
			p := plain{c, empty(c.Seg, c.Least, 41)}
			m, e := Put(p.packed(), x.Key, x.Val)
			wantMap(t, m, e, plain{c, p.spread(0, c.Seg, []api.Pair{x})}, "Put of the first key", c, x)
			wantVal(t, m, x.Key, x.Val, "the first key")
			wantSize(t, m, 1, "the first key")
			for _, key := range []int64{least, 0, greatest} {
				if key != x.Key {
					got, e := Delete(m, key)
					wantRefused(t, got, e, api.ErrNone, "Delete", c, key)
				}
			}
			m, e = Delete(m, x.Key)
			wantMap(t, m, e, plain{c, empty(c.Seg, c.Least, 42)}, "Delete of the last key", c, x)
			got, e := Delete(m, x.Key)
			wantRefused(t, got, e, api.ErrNone, "Delete again", c, x)
		}
	}
}
