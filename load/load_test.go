package load

import (
	"fmt"
	"slices"
	"testing"

	"shelfmark/api"
)

// mapOf is a map of c with so many slots, and pairs in some of them.
func mapOf(c api.Config, laid uint64, at map[int]api.Pair) api.Pma {
	p := empty(c.Seg, c.Least, laid)
	for slot, x := range at {
		p.cells[slot] = &x
	}
	return plain{c, p}.packed()
}

func TestExamples(t *testing.T) {
	c := example()
	m, e := Load(mapOf(c, 0, nil), []api.Pair{{Key: 1, Val: 10}, {Key: 3, Val: 30}})
	if e != api.OK || !alike(m, mapOf(c, 2, map[int]api.Pair{0: {Key: 1, Val: 10}, 8: {Key: 3, Val: 30}})) {
		t.Errorf("Load: %v, %d", m, int(e))
	}
	wantPairs(t, m, []api.Pair{{Key: 1, Val: 10}, {Key: 3, Val: 30}}, "loaded")
	o, e := Load(mapOf(c, 0, nil), []api.Pair{{Key: 2, Val: 20}, {Key: 3, Val: 31}})
	if e != api.OK {
		t.Errorf("Load: %d", int(e))
	}
	m, e = Merge(m, o)
	if e != api.OK || !alike(m, mapOf(c, 5, map[int]api.Pair{0: {Key: 1, Val: 10}, 5: {Key: 2, Val: 20}, 10: {Key: 3, Val: 31}})) {
		t.Errorf("Merge: %v, %d", m, int(e))
	}
	wantPairs(t, m, []api.Pair{{Key: 1, Val: 10}, {Key: 2, Val: 20}, {Key: 3, Val: 31}}, "merged")
	m, n, e := Range(m, 2, 9)
	if e != api.OK || n != 2 || !alike(m, mapOf(c, 6, map[int]api.Pair{0: {Key: 1, Val: 10}})) {
		t.Errorf("Range of 2 to 9: %v, %d, %d", m, n, int(e))
	}
	wantPairs(t, m, []api.Pair{{Key: 1, Val: 10}}, "behind the range")
}

// turned is c with one thing turned.
func turned(c api.Config, turn func(c *api.Config)) api.Config {
	turn(&c)
	return c
}

// badConfigs break the conditions of a config, most of them one alone.
func badConfigs() map[string]api.Config {
	small, wide := growing(), widest()
	return map[string]api.Config{
		"nothing":         {},
		"tag 0":           turned(small, func(c *api.Config) { c.Tag = 0 }),
		"tag 4":           turned(small, func(c *api.Config) { c.Tag = 4 }),
		"tag 255":         turned(small, func(c *api.Config) { c.Tag = 255 }),
		"most 0":          turned(small, func(c *api.Config) { c.Most = 0 }),
		"most -1":         turned(small, func(c *api.Config) { c.Most = -1 }),
		"most least":      turned(small, func(c *api.Config) { c.Most = least }),
		"most above":      turned(wide, func(c *api.Config) { c.Most++ }),
		"heights":         turned(small, func(c *api.Config) { c.Most++ }),
		"heights again":   turned(example(), func(c *api.Config) { c.Most++ }),
		"seg 0":           turned(small, func(c *api.Config) { c.Seg = 0 }),
		"seg 2":           turned(small, func(c *api.Config) { c.Seg = 2 }),
		"seg no power":    turned(wide, func(c *api.Config) { c.Seg = 48 }),
		"seg above":       turned(wide, func(c *api.Config) { c.Seg = 128 }),
		"least no power":  turned(wide, func(c *api.Config) { c.Least = 192 }),
		"least below seg": turned(wide, func(c *api.Config) { c.Least = 32 }),
		"least above":     turned(wide, func(c *api.Config) { c.Least = 512 }),
		"den 0":           turned(small, func(c *api.Config) { c.Den = 0 }),
		"den above":       turned(wide, func(c *api.Config) { c.Den, c.RootHigh = 65, 33 }),
		"leaf low -1":     turned(small, func(c *api.Config) { c.LeafLow = -1 }),
		"leaf low":        turned(small, func(c *api.Config) { c.LeafLow = c.RootLow }),
		"root high":       turned(flat(), func(c *api.Config) { c.RootHigh = c.LeafHigh }),
		"leaf high":       turned(wide, func(c *api.Config) { c.LeafHigh++ }),
		"half":            turned(wide, func(c *api.Config) { c.RootHigh-- }),
		"eighth":          turned(wide, func(c *api.Config) { c.RootLow++ }),
		"two":             turned(wide, func(c *api.Config) { c.LeafLow, c.RootLow, c.Least = 0, 1, 64 }),
	}
}

// spoiltOne is an array that may not be, and why.
type spoiltOne struct {
	why string
	s   api.Slots
}

// spoilt are arrays that may not be, each by one thing alone.
func spoilt(p array) []spoiltOne {
	var l []spoiltOne
	spoil := func(why string, turn func(s *api.Slots)) {
		s := p.packed()
		turn(&s)
		l = append(l, spoiltOne{why, s})
	}
	n := len(p.cells)
	for _, seg := range []int{0, 1, 2, 3, 5, 12, p.seg + 1, p.seg - 1, 128, -4, -p.seg, least, greatest} {
		spoil("a segment that may not be", func(s *api.Slots) { s.Seg = seg })
	}
	spoil("a slot less", func(s *api.Slots) { s.Keys, s.Vals = s.Keys[:n-1], s.Vals[:n-1] })
	spoil("a slot more", func(s *api.Slots) { s.Keys, s.Vals = append(s.Keys, 0), append(s.Vals, 0) })
	spoil("half of the slots", func(s *api.Slots) { s.Keys, s.Vals = s.Keys[:n/2], s.Vals[:n/2] })
	spoil("no slots", func(s *api.Slots) { s.Words, s.Keys, s.Vals, s.Counts = nil, nil, nil, nil })
	spoil("a key less", func(s *api.Slots) { s.Keys = s.Keys[:n-1] })
	spoil("a value less", func(s *api.Slots) { s.Vals = s.Vals[:n-1] })
	spoil("a value more", func(s *api.Slots) { s.Vals = append(s.Vals, 0) })
	spoil("no values", func(s *api.Slots) { s.Vals = nil })
	spoil("no words", func(s *api.Slots) { s.Words = nil })
	spoil("a word more", func(s *api.Slots) { s.Words = append(s.Words, 0) })
	spoil("no counts", func(s *api.Slots) { s.Counts = nil })
	spoil("a count more", func(s *api.Slots) { s.Counts = append(s.Counts, 0) })
	spoil("a count less", func(s *api.Slots) { s.Counts = s.Counts[:len(s.Counts)-1] })
	for _, by := range []int{1, -1, p.seg, least} {
		spoil("a count that is wrong", func(s *api.Slots) { s.Counts[len(s.Counts)-1] += by })
	}
	if len(p.packed().Counts) > 1 {
		spoil("counts that add up, and are wrong", func(s *api.Slots) { s.Counts[0]++; s.Counts[1]-- })
	}
	if n < 64 {
		spoil("a bit beyond the slots", func(s *api.Slots) { s.Words[0] |= 1 << uint(n) })
	}
	spoil("a bit that is not counted", func(s *api.Slots) { s.Words[0] ^= 1 })
	if gap := slices.Index(p.cells, nil); gap >= 0 {
		spoil("a key in a gap", func(s *api.Slots) { s.Keys[gap] = 1 })
		spoil("a value in a gap", func(s *api.Slots) { s.Vals[gap] = least })
	}
	return l
}

// All: a config that may not be is told ahead of slots that are not its config's, of keys that fall, of pairs that don't rise, and of too many.
func TestConfigRefused(t *testing.T) {
	next := mixer(3)
	some := scattered(growing(), 64, 32, next).array
	arrays := []api.Slots{{}, empty(8, 16, 0).packed(), empty(4, 16, 0).packed(), empty(64, 256, 5).packed(), some.packed(), some.with(3, greatest).packed()}
	for _, bad := range spoilt(some)[20:] {
		arrays = append(arrays, bad.s)
	}
	for why, c := range badConfigs() {
		for _, s := range arrays {
			wantAllRefused(t, api.Pma{Config: c, Slots: s}, api.ErrConf, why)
		}
	}
}

// All: an array that may not be is told ahead of keys that fall, of pairs that don't rise, and of too many.
func TestBadArrayRefused(t *testing.T) {
	for _, c := range named() {
		next := mixer(9)
		for _, size := range capacities(c) {
			n := counts(c, size, next)[4]
			p := scattered(c, size, n, next).array
			arrays := []array{p}
			if n > 1 {
				arrays = append(arrays, p.with(n-1, least))
			}
			for _, p := range arrays {
				for _, bad := range spoilt(p) {
					wantAllRefused(t, api.Pma{Config: c, Slots: bad.s}, api.ErrBad, bad.why)
				}
			}
		}
		for _, s := range []api.Slots{{}, {Seg: c.Seg}, {Seg: c.Seg, Words: []uint64{}, Keys: []int64{}, Vals: []int64{}, Counts: []int{}}} {
			wantAllRefused(t, api.Pma{Config: c, Slots: s}, api.ErrBad, "nothing")
		}
	}
}

// All: slots that may be, and are another config's: by Seg, by their number, by more pairs than Most, by a window that has too many, or too few.
func TestOtherConfigRefused(t *testing.T) {
	for _, c := range append(named(), mixedConfigs(8, 300, 6)...) {
		all := capacities(c)
		for seg := api.MinSeg; seg <= api.MaxSeg; seg *= 2 {
			for size := max(seg, all[0]/2); size <= 2*all[len(all)-1]; size *= 2 {
				for _, n := range []int{0, c.Most / 3, c.Most, c.Most + 1} {
					if n > size {
						continue
					}
					p := plain{c, empty(seg, size, 1).spread(0, size, threes(n))}
					if seg != c.Seg || !slices.Contains(all, size) || n > c.Most || len(p.wrong()) > 0 {
						wantAllRefused(t, p.packed(), api.ErrBad, fmt.Sprintf("%d pairs in %d slots by %d", n, size, seg))
						continue
					}
					wantPairs(t, p.packed(), threes(n), "a config's")
					wantRebuild(t, p, p.packed())
				}
			}
		}
	}
}

// All: keys of the map that don't rise at one place alone, told ahead of pairs that don't rise, and of too many.
func TestFallRefused(t *testing.T) {
	everyMap(t, append(named(), mixedConfigs(8, 200, 5)...), 1, func(p plain, m api.Pma) {
		l := p.all()
		for k := 1; k < len(l); k++ {
			if len(l) > 5 && k > 1 && k < len(l)-1 && k != len(l)/2 {
				continue
			}
			for _, bad := range []array{p.with(k, l[k-1].Key), p.with(k-1, l[k].Key).with(k, l[k-1].Key)} {
				wantAllRefused(t, plain{p.c, bad}.packed(), api.ErrOrder, fmt.Sprintf("a fall at %d", k))
			}
		}
	})
}

// All: of Merge, the error of the first map, then that of the second, each of them ahead of too many pairs.
func TestFirstMapFirst(t *testing.T) {
	full := loaded(growing(), threes(64))
	other := plain{full.c, full.with(3, 1000)}
	bads := map[api.Errno]api.Pma{
		api.ErrConf:  {Config: badConfigs()["heights"], Slots: full.array.packed()},
		api.ErrBad:   {Config: example(), Slots: full.array.packed()},
		api.ErrOrder: other.packed(),
	}
	for first, m := range bads {
		for second, o := range bads {
			got, e := Merge(m, o)
			wantRefused(t, got, e, first, "Merge of two that may not be", first, second)
		}
		got, e := Merge(m, full.packed())
		wantRefused(t, got, e, first, "Merge of a first one that may not be", first)
		got, e = Merge(full.packed(), m)
		wantRefused(t, got, e, first, "Merge of a second one that may not be", first)
	}
}

// P13.1: lists of each number of pairs, up to Most and two more, loaded into maps of all kinds, whatever these had.
func TestLoad(t *testing.T) {
	everyMap(t, append(named(), mixedConfigs(20, 200, 7)...), 1, func(p plain, m api.Pma) {
		next := mixer(p.laid)
		rules := keyRules()
		for _, n := range []int{0, 1, 2, 3, next(p.c.Most + 1), next(p.c.Most + 1), p.c.Most, p.c.Most + 1} {
			wantLoad(t, p, m, risingPairs(rules[next(len(rules))](n), next))
		}
		wantLoad(t, p, m, p.all())
	})
}

// P13.1: each number of pairs, of small configs: the least capacity that takes them, each of them in its place.
func TestLoadOfEachNumber(t *testing.T) {
	few := turned(growing(), func(c *api.Config) { c.Most = 1 })
	for _, c := range append(named(), few, turned(growing(), func(c *api.Config) { c.Most = 33 })) {
		p := scattered(c, capacities(c)[0], 1, mixer(4))
		m := p.packed()
		for n := range c.Most + 3 {
			wantLoad(t, p, m, threes(n))
		}
		wantLoad(t, p, m, threes(3*c.Most))
	}
}

// P13.1: what has Most pairs, by all rules of keys, and what has one more.
func TestMost(t *testing.T) {
	for _, c := range append(named(), mixedConfigs(40, 600, 8)...) {
		p := plain{c, empty(c.Seg, c.Least, 9)}
		for _, keys := range keyRules() {
			l := risingPairs(keys(c.Most), mixer(1))
			m, e := Load(p.packed(), l)
			wantMap(t, m, e, p.anew(l), "Load of Most", c)
			wantPairs(t, m, l, "Most")
			m, e = Load(p.packed(), risingPairs(keys(c.Most+1), mixer(1)))
			wantRefused(t, m, e, api.ErrFull, "Load of one more", c)
		}
	}
}

// P13.1: pairs that don't rise at one place alone, alike there or fallen, with other values and the same; also where they are more than Most.
func TestUnsortedRefused(t *testing.T) {
	for _, c := range []api.Config{example(), growing(), fromFlat()} {
		m := loaded(c, threes(5)).packed()
		refused := func(l []api.Pair, why string, k int) {
			t.Helper()
			got, e := Load(m, l)
			wantRefused(t, got, e, api.ErrOrder, "Load", why, k, len(l))
		}
		for _, n := range []int{2, 3, 4, c.Most, c.Most + 1, c.Most + 2, 2 * c.Most} {
			l := threes(n)
			for k := 1; k < n; k++ {
				bad := slices.Clone(l)
				bad[k] = l[k-1]
				refused(bad, "twice the same pair at", k)
				bad[k].Val++
				refused(bad, "twice the same key at", k)
				bad[k] = l[k]
				bad[k-1].Key = l[k].Key + 1
				refused(bad, "a fall at", k)
				bad[k-1], bad[k] = l[k], l[k-1]
				refused(bad, "two turned over at", k)
			}
			slices.Reverse(l)
			refused(l, "all turned round", 0)
		}
	}
}

// P13.1: keys at both ends of 64 bits: their differences run over, and still they rise, or fall.
func TestEndsOf64Bits(t *testing.T) {
	p := loaded(example(), threes(3))
	m := p.packed()
	for _, keys := range [][]int64{
		{least}, {greatest}, {0}, {least, greatest}, {greatest, least}, {least, least}, {greatest, greatest}, {least, 0, greatest},
		{least, least + 1}, {least + 1, least}, {greatest - 1, greatest}, {greatest, greatest - 1}, {0, least}, {greatest, 0}, {-1, greatest},
		{least, -1, 0, greatest}, {least, greatest, 0}, {0, least, greatest}, {least, -2, greatest - 1, greatest}, {-2, greatest, least, 3},
	} {
		l := risingPairs(keys, mixer(6))
		wantLoad(t, p, m, l)
		if !rising(l) {
			continue
		}
		one := p.anew(l)
		for _, from := range beside(keys) {
			for _, to := range beside(keys) {
				wantRange(t, one, one.packed(), from, to)
			}
		}
		for _, other := range [][]int64{{least}, {greatest}, {least, greatest}, {least + 1, greatest - 1}, {-1, 0}, {least, 0, greatest}} {
			o := loaded(flat(), risingPairs(other, mixer(9)))
			wantMerge(t, one, o)
			wantMerge(t, o, one)
		}
	}
}

// P13.1: the pairs of maps of all kinds, in order; and rebuilt, they stand as if they had been loaded.
func TestPairsAndRebuild(t *testing.T) {
	lesser := 0
	everyMap(t, append(named(), mixedConfigs(40, 300, 11)...), 2, func(p plain, m api.Pma) {
		wantPairs(t, m, p.all(), "a map")
		wantRebuild(t, p, m)
		if len(p.anew(p.all()).cells) < len(p.cells) {
			lesser++
		}
	})
	if lesser < 50 {
		t.Errorf("%d maps were rebuilt over a lesser capacity", lesser)
	}
}

// P13.1: what stands as it should is laid anew all the same: the ledger tells each pair; and again.
func TestRebuildAgain(t *testing.T) {
	for _, c := range named() {
		for _, n := range []int{0, 1, 2, c.Most / 2, c.Most} {
			p := loaded(c, threes(n))
			m := p.packed()
			for i := range 3 {
				wantRebuild(t, p, m)
				m, _ = Rebuild(m)
				p = p.anew(p.all())
				if want := uint64((i + 2) * n); m.Slots.Laid != want {
					t.Errorf("%d pairs rebuilt %d times: Laid %d; want %d", n, i+1, m.Slots.Laid, want)
				}
			}
		}
	}
}

// P13.2: from each key and those beside it up to each, of maps of all kinds: none, some, all, from above to.
func TestRange(t *testing.T) {
	took := map[string]int{}
	everyMap(t, append(named(), mixedConfigs(20, 200, 12)...), 1, func(p plain, m api.Pma) {
		next := mixer(p.laid + 1)
		keys := beside(someOf(keysOf(p.all())))
		for range 8 {
			from, to := keys[next(len(keys))], keys[next(len(keys))]
			switch n := wantRange(t, p, m, from, to); {
			case from > to:
				took["from above to"]++
			case n == 0:
				took["none"]++
			case n < len(p.all()):
				took["some"]++
			}
		}
		wantRange(t, p, m, least, greatest)
		wantRange(t, p, m, greatest, least)
	})
	for _, kind := range []string{"from above to", "none", "some"} {
		if took[kind] < 30 {
			t.Errorf("%s: %d ranges", kind, took[kind])
		}
	}
}

// P13.2: each two ends among few keys, those of a key alone among them.
func TestRangeOfEachEnds(t *testing.T) {
	for _, keys := range [][]int64{{}, {5}, {0, 1}, {-7, 0, 4}, {1, 2, 3, 4, 5, 6, 7, 8}, {least, -4, -3, 0, 6, greatest}} {
		for _, c := range []api.Config{example(), growing()} {
			p := loaded(c, risingPairs(keys, mixer(5)))
			m := p.packed()
			for _, from := range beside(keys) {
				for _, to := range beside(keys) {
					wantRange(t, p, m, from, to)
				}
			}
		}
	}
}

// P13.2: where none goes, from above to or not, all is laid anew all the same, over the least capacity that takes it.
func TestRangeOfNone(t *testing.T) {
	everyMap(t, []api.Config{growing(), fromFlat(), tilted()}, 1, func(p plain, m api.Pma) {
		l := p.all()
		ends := [][2]int64{{greatest, least}, {1, 0}, {0, -1}, {least + 1, least}}
		for _, key := range someOf(keysOf(l)) {
			if key > least {
				ends = append(ends, [2]int64{key, key - 1})
			}
		}
		for i := 1; i < len(l); i++ {
			if l[i].Key-l[i-1].Key == 3 && len(ends) < 10 {
				ends = append(ends, [2]int64{l[i-1].Key + 1, l[i].Key - 1}, [2]int64{l[i].Key - 1, l[i].Key - 1})
			}
		}
		for _, one := range ends {
			if n := wantRange(t, p, m, one[0], one[1]); n != 0 {
				t.Errorf("from %d to %d are %d keys", one[0], one[1], n)
			}
		}
	})
}

// P13.2: what is left comes to each lesser capacity.
func TestRangeHalves(t *testing.T) {
	for _, c := range []api.Config{growing(), fromFlat(), tilted()} {
		p := loaded(c, threes(c.Most))
		m, l := p.packed(), p.all()
		for k := range l {
			if k%7 == 0 || k < 3 || k > len(l)-3 {
				wantRange(t, p, m, l[k].Key, greatest)
				wantRange(t, p, m, least, l[k].Key)
				wantRange(t, p, m, l[k].Key, l[k].Key)
				wantRange(t, p, m, l[k/2].Key, l[k].Key-1)
			}
		}
	}
}

// seconds are lists of pairs that are merged into l: none, one, all its keys, none of them, some of them and others, all below, all above.
func seconds(l []api.Pair, next func(int) int) [][]api.Pair {
	own, all := keysOf(l), beside(keysOf(l))
	not := slices.DeleteFunc(slices.Clone(all), func(key int64) bool { return slices.Contains(own, key) })
	lists := [][]int64{nil, {all[next(len(all))]}, own, not, {least}, {greatest}, {least, greatest}}
	for _, from := range [][]int64{own, not, all} {
		for _, part := range []int{2, 3, 7} {
			lists = append(lists, slices.DeleteFunc(slices.Clone(from), func(int64) bool { return next(part) > 0 }))
		}
	}
	if n := len(all); n > 12 {
		lists = append(lists, all[:n/3], all[n/3:], all[n/3:2*n/3])
	}
	var out [][]api.Pair
	for _, keys := range lists {
		out = append(out, risingPairs(keys, func(int) int { return 1 }))
	}
	return out
}

// P13.3: maps of all kinds into which others of all kinds are merged, of the same config and of another one, more than Most together or not.
func TestMerge(t *testing.T) {
	met := map[api.Errno]int{}
	configs := append(named(), widest())
	everyMap(t, append(named(), mixedConfigs(20, 200, 13)...), 1, func(p plain, m api.Pma) {
		next := mixer(p.laid + 2)
		for _, l := range seconds(p.all(), next) {
			c := configs[next(len(configs))]
			if len(l) > c.Most {
				c = widest()
			}
			if len(l) <= p.c.Most && next(2) == 0 {
				c = p.c
			}
			q := loaded(c, l)
			q.laid = uint64(next(5000))
			met[wantMerge(t, p, q)]++
			if next(4) == 0 {
				met[wantMerge(t, q, p)]++
			}
		}
	})
	for _, e := range []api.Errno{api.OK, api.ErrFull} {
		if met[e] < 200 {
			t.Errorf("%d merges answered %d", met[e], int(e))
		}
	}
}

// P13.3: both maps uneven, as their configs let them be.
func TestMergeOfUneven(t *testing.T) {
	for i, c := range []api.Config{fromFlat(), growing(), tilted(), widest()} {
		next := mixer(uint64(i) + 40)
		for _, d := range []api.Config{fromFlat(), growing(), tilted()} {
			for range 30 {
				cSizes, dSizes := capacities(c), capacities(d)
				cSize, dSize := cSizes[next(min(len(cSizes), 4))], dSizes[next(len(dSizes))]
				p := scattered(c, cSize, counts(c, cSize, next)[4], next)
				q := scattered(d, dSize, counts(d, dSize, next)[5], next)
				wantMerge(t, p, q)
				wantMerge(t, p, p)
			}
		}
	}
}

// P13.3: each two sets of few keys: whichever run is at its end first, and wherever both have one.
func TestMergeOfEachSets(t *testing.T) {
	sets := func(c api.Config, val int64) []plain {
		var all []plain
		for bits := range 32 {
			var l []api.Pair
			for k := range 5 {
				if bits>>k&1 == 1 {
					l = append(l, api.Pair{Key: int64(k - 2), Val: val + int64(k)})
				}
			}
			all = append(all, loaded(c, l))
		}
		return all
	}
	for _, p := range sets(example(), 10) {
		for _, q := range sets(growing(), 20) {
			if wantMerge(t, p, q) != api.OK {
				t.Error("at most five keys are too many")
			}
			wantMerge(t, q, p)
		}
	}
}

// P13.3: together they are Most, or one more, whatever both have: it is the pairs that they leave that are counted, and Most is that of the first.
func TestMergeUpToMost(t *testing.T) {
	for _, c := range append(named(), mixedConfigs(30, 300, 14)...) {
		for _, n := range []int{0, 1, c.Most / 2, c.Most - 1, c.Most} {
			p := loaded(c, threes(n))
			for _, both := range []int{0, 1, n / 2, n} {
				for _, more := range []int{0, 1, c.Most - n - 1, c.Most - n, c.Most - n + 1} {
					if both > n || more < 0 {
						continue
					}
					l := slices.Clone(p.all()[:both])
					for i := range l {
						l[i].Val = int64(-i)
					}
					for i := range more {
						l = append(l, api.Pair{Key: int64(3*n + i + 9), Val: 8})
					}
					e := wantMerge(t, p, loaded(widest(), l))
					if (e == api.ErrFull) != (n+more > c.Most) {
						t.Errorf("%d and %d, %d in both, of most %d: %d", n, len(l), both, c.Most, int(e))
					}
				}
			}
		}
	}
}

// P13.3: a greater Most of the second helps nothing, and a lesser one harms nothing.
func TestMostOfTheFirst(t *testing.T) {
	small, great := loaded(example(), threes(8)), loaded(growing(), threes(60))
	if e := wantMerge(t, small, great); e != api.ErrFull {
		t.Errorf("60 keys in a map of 8: %d", int(e))
	}
	if e := wantMerge(t, great, small); e != api.OK {
		t.Errorf("8 keys in a map of 64: %d", int(e))
	}
	wantMerge(t, loaded(example(), nil), loaded(growing(), threes(8)))
	wantMerge(t, loaded(example(), nil), loaded(growing(), threes(9)))
}

// P13.3: a map merged with itself, and of the same keys with other values: those of the second, wherever they stood.
func TestMergeOfAllKeys(t *testing.T) {
	everyMap(t, append(named(), mixedConfigs(20, 300, 15)...), 1, func(p plain, m api.Pma) {
		wantMerge(t, p, p)
		l := p.all()
		for i := range l {
			l[i].Val = int64(2*i + 1)
		}
		q := p.anew(l)
		q.laid = 1
		wantMerge(t, p, q)
		wantMerge(t, q, p)
	})
}

// P13.1 to P13.3: the most pairs and slots that may be.
func TestWidest(t *testing.T) {
	c := widest()
	next := mixer(31)
	rules := keyRules()
	for i, n := range []int{0, 5000, c.Most - 1, c.Most} {
		p := scattered(c, capacityFor(c, n), n, next)
		m := p.packed()
		l := p.all()
		wantPairs(t, m, l, "the widest")
		wantRebuild(t, p, m)
		wantLoad(t, p, m, risingPairs(rules[i](c.Most), next))
		wantLoad(t, p, m, risingPairs(rules[i](c.Most+1), next))
		if n > 0 {
			wantRange(t, p, m, l[n/3].Key, l[2*n/3].Key)
			wantRange(t, p, m, l[0].Key, l[n-1].Key)
		}
		wantMerge(t, p, loaded(growing(), threes(64)))
		wantMerge(t, p, loaded(c, risingPairs(rules[i+4](c.Most-n), next)))
		wantMerge(t, p, p)
	}
}
