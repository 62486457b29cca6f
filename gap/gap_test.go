package gap

import (
	"fmt"
	"slices"
	"testing"

	"shelfmark/api"
	"shelfmark/slots"
)

func TestExamples(t *testing.T) {
	c := example()
	s, e := New(c)
	wantSlots(t, s, e, empty(4, 16, 0), "New")
	s, e = Put(c, s, 0, api.Pair{Key: 5, Val: 50})
	want := api.Slots{Seg: 4, Words: []uint64{1}, Keys: make([]int64, 16), Vals: make([]int64, 16), Counts: []int{1, 0, 0, 0}, Laid: 1}
	want.Keys[0], want.Vals[0] = 5, 50
	if e != api.OK || !alike(s, want) {
		t.Errorf("Put of 5: %v, %d", s, int(e))
	}
	s, e = Put(c, s, 1, api.Pair{Key: 9, Val: 90})
	want.Words[0], want.Counts[0], want.Laid = 5, 2, 3
	want.Keys[2], want.Vals[2] = 9, 90
	if e != api.OK || !alike(s, want) {
		t.Errorf("Put of 9: %v, %d", s, int(e))
	}
	s, e = Load(c, s, risingPairs(8))
	if e != api.OK || s.Words[0] != 0x5555 || s.Laid != 11 || Check(c, s) != api.OK {
		t.Errorf("Load of eight: %v, %d", s, int(e))
	}
	got, e := Load(c, s, risingPairs(9))
	wantRefused(t, got, e, api.ErrFull, "Load of nine")
	got, e = Put(c, s, 8, api.Pair{Key: 99})
	wantRefused(t, got, e, api.ErrFull, "Put of a ninth")
}

// turned is c with one thing turned.
func turned(c api.Config, turn func(c *api.Config)) api.Config {
	turn(&c)
	return c
}

// badConfigs break the conditions of a config, most of them one alone.
func badConfigs() map[string]api.Config {
	small, wide := growing(), widest()
	return map[string]api.Config{
		"nothing":         {},
		"tag 0":           turned(small, func(c *api.Config) { c.Tag = 0 }),
		"tag 4":           turned(small, func(c *api.Config) { c.Tag = 4 }),
		"tag 255":         turned(small, func(c *api.Config) { c.Tag = 255 }),
		"most 0":          turned(small, func(c *api.Config) { c.Most = 0 }),
		"most -1":         turned(small, func(c *api.Config) { c.Most = -1 }),
		"most above":      turned(wide, func(c *api.Config) { c.Most++ }),
		"heights":         turned(small, func(c *api.Config) { c.Most++ }),
		"heights again":   turned(example(), func(c *api.Config) { c.Most++ }),
		"seg 2":           turned(small, func(c *api.Config) { c.Seg = 2 }),
		"seg no power":    turned(wide, func(c *api.Config) { c.Seg = 48 }),
		"seg above":       turned(wide, func(c *api.Config) { c.Seg = 128 }),
		"least no power":  turned(wide, func(c *api.Config) { c.Least = 192 }),
		"least below seg": turned(wide, func(c *api.Config) { c.Least = 32 }),
		"least above":     turned(wide, func(c *api.Config) { c.Least = 512 }),
		"den 0":           turned(small, func(c *api.Config) { c.Den = 0 }),
		"den above":       turned(wide, func(c *api.Config) { c.Den, c.RootHigh = 65, 33 }),
		"leaf low -1":     turned(small, func(c *api.Config) { c.LeafLow = -1 }),
		"leaf low":        turned(small, func(c *api.Config) { c.LeafLow = c.RootLow }),
		"root high":       turned(flat(), func(c *api.Config) { c.RootHigh = c.LeafHigh }),
		"leaf high":       turned(wide, func(c *api.Config) { c.LeafHigh++ }),
		"half":            turned(wide, func(c *api.Config) { c.RootHigh-- }),
		"eighth":          turned(wide, func(c *api.Config) { c.RootLow++ }),
		"two":             turned(wide, func(c *api.Config) { c.LeafLow, c.RootLow, c.Least = 0, 1, 64 }),
	}
}

// P9.1: a config that may not be is told ahead of all else, whatever array, number and pairs are handed in.
func TestConfigRefused(t *testing.T) {
	next := mixer(3)
	arrays := []api.Slots{{}, empty(8, 16, 0).packed(), empty(4, 16, 0).packed(), empty(64, 256, 5).packed(), scattered(growing(), 64, 32, next).packed()}
	for _, bad := range spoilt(empty(8, 16, 0)) {
		arrays = append(arrays, bad.s)
	}
	for why, c := range badConfigs() {
		got, e := New(c)
		wantRefused(t, got, e, api.ErrConf, "New", why, c)
		for _, s := range arrays {
			wantAllRefused(t, c, s, api.ErrConf, why)
		}
	}
}

// P9.1: the least array of each config, without pairs.
func TestNew(t *testing.T) {
	for _, c := range append(append(named(), widest()), mixedConfigs(100, api.MaxMost, 4)...) {
		s, e := New(c)
		wantSlots(t, s, e, empty(c.Seg, c.Least, 0), "New", c)
		wantCheck(t, c, s, api.OK, "New")
	}
}

// spoiltOne is an array that may not be, and why.
type spoiltOne struct {
	why string
	s   api.Slots
}

// spoilt are arrays that may not be, each by one thing alone.
func spoilt(p plain) []spoiltOne {
	var l []spoiltOne
	spoil := func(why string, turn func(s *api.Slots)) {
		s := p.packed()
		turn(&s)
		l = append(l, spoiltOne{why, s})
	}
	n := len(p.cells)
	for _, seg := range []int{0, 1, 2, 3, 5, 12, p.seg + 1, p.seg - 1, 128, -4, -p.seg, least, greatest} {
		spoil("a segment that may not be", func(s *api.Slots) { s.Seg = seg })
	}
	spoil("a slot less", func(s *api.Slots) { s.Keys, s.Vals = s.Keys[:n-1], s.Vals[:n-1] })
	spoil("a slot more", func(s *api.Slots) { s.Keys, s.Vals = append(s.Keys, 0), append(s.Vals, 0) })
	spoil("half of the slots", func(s *api.Slots) { s.Keys, s.Vals = s.Keys[:n/2], s.Vals[:n/2] })
	spoil("no slots", func(s *api.Slots) { s.Words, s.Keys, s.Vals, s.Counts = nil, nil, nil, nil })
	spoil("a key less", func(s *api.Slots) { s.Keys = s.Keys[:n-1] })
	spoil("a value less", func(s *api.Slots) { s.Vals = s.Vals[:n-1] })
	spoil("a value more", func(s *api.Slots) { s.Vals = append(s.Vals, 0) })
	spoil("no values", func(s *api.Slots) { s.Vals = nil })
	spoil("no words", func(s *api.Slots) { s.Words = nil })
	spoil("a word more", func(s *api.Slots) { s.Words = append(s.Words, 0) })
	spoil("no counts", func(s *api.Slots) { s.Counts = nil })
	spoil("a count more", func(s *api.Slots) { s.Counts = append(s.Counts, 0) })
	spoil("a count less", func(s *api.Slots) { s.Counts = s.Counts[:len(s.Counts)-1] })
	for _, by := range []int{1, -1, p.seg, least} {
		spoil("a count that is wrong", func(s *api.Slots) { s.Counts[len(s.Counts)-1] += by })
	}
	if n < 64 {
		spoil("a bit beyond the slots", func(s *api.Slots) { s.Words[0] |= 1 << uint(n) })
	}
	spoil("a bit that is not counted", func(s *api.Slots) { s.Words[0] ^= 1 })
	if gap := slices.Index(p.cells, nil); gap >= 0 {
		spoil("a key in a gap", func(s *api.Slots) { s.Keys[gap] = 1 })
		spoil("a value in a gap", func(s *api.Slots) { s.Vals[gap] = least })
	}
	return l
}

// P9.1: an array that may not be is told ahead of a number that is none, of Most pairs, and of pairs that are too many.
func TestBadArrayRefused(t *testing.T) {
	for _, c := range named() {
		next := mixer(9)
		for _, size := range capacities(c) {
			for _, n := range counts(c, size, next) {
				for _, bad := range spoilt(scattered(c, size, n, next)) {
					wantAllRefused(t, c, bad.s, api.ErrBad, bad.why)
				}
			}
		}
		for _, s := range []api.Slots{{}, {Seg: c.Seg}, {Seg: c.Seg, Words: []uint64{}, Keys: []int64{}, Vals: []int64{}, Counts: []int{}}} {
			wantAllRefused(t, c, s, api.ErrBad, "nothing")
		}
	}
}

// P9.1: another Seg, though all else would do.
func TestSegRefused(t *testing.T) {
	for _, c := range named() {
		for seg := api.MinSeg; seg <= api.MaxSeg; seg *= 2 {
			want := api.ErrBad
			if seg == c.Seg {
				want = api.OK
			}
			for _, size := range capacities(c) {
				if seg > size {
					continue
				}
				p := empty(seg, size, 0).spread(0, size, risingPairs(size/4))
				if size == c.Least {
					wantCheck(t, c, empty(seg, size, 0).packed(), want, "another Seg")
				}
				if size/4 <= c.Most {
					wantCheck(t, c, p.packed(), want, "another Seg, with pairs")
				}
				if want != api.OK {
					wantAllRefused(t, c, p.packed(), want, "another Seg")
				}
			}
		}
	}
}

// P9.1: a number of slots that is a power, and no capacity: below the least one, and above the greatest one, with pairs that would do.
func TestSizeRefused(t *testing.T) {
	for _, c := range append(named(), mixedConfigs(40, 2000, 6)...) {
		all := capacities(c)
		for size := c.Seg; size <= api.MaxSlots; size *= 2 {
			want := api.ErrBad
			if slices.Contains(all, size) {
				want = api.OK
			}
			n := min(size/4, c.Most)
			if size == all[len(all)-1] {
				n = c.Most
			}
			s := empty(c.Seg, size, 1).spread(0, size, risingPairs(n)).packed()
			wantCheck(t, c, s, want, "a size")
			if want != api.OK && size <= 4*all[len(all)-1] {
				wantAllRefused(t, c, s, want, "a size that is no capacity")
				wantAllRefused(t, c, empty(c.Seg, size, 1).packed(), want, "a size that is no capacity, without pairs")
			}
		}
	}
}

// P9.1: Most pairs may be; one more may not, though no window has too many.
func TestMoreThanMostRefused(t *testing.T) {
	for _, c := range append(append(named(), mixedConfigs(60, 2000, 7)...), turned(growing(), func(c *api.Config) { c.Most = 40 }), turned(growing(), func(c *api.Config) { c.Most = 1 })) {
		for _, size := range capacities(c) {
			limits := boundsOf(c, size)
			b := limits[len(limits)-1]
			for _, n := range []int{c.Most - 1, c.Most, c.Most + 1, c.Most + 2, b.high} {
				if n < b.low || n > b.high {
					continue
				}
				p := empty(c.Seg, size, 0).spread(0, size, risingPairs(n))
				if l := p.wrong(c); len(l) > 0 {
					t.Fatalf("%d pairs, spread over %d slots of %v: %v", n, size, c, l)
				}
				if n <= c.Most {
					wantCheck(t, c, p.packed(), api.OK, "Most")
				} else {
					wantAllRefused(t, c, p.packed(), api.ErrBad, "more than Most")
				}
			}
		}
	}
}

// bounding is an array of c in which the window i of height h has n pairs, and those beside it as few as may be, or as many; whether there is one.
func bounding(c api.Config, size, h, i, n int, few bool) (plain, bool) {
	limits := boundsOf(c, size)
	p := empty(c.Seg, size, 0)
	lay := func(h, i, n int) {
		w := c.Seg << h
		p = p.spread(i*w, (i+1)*w, risingPairs(n))
	}
	lay(h, i, n)
	for ; h < len(limits)-1; h, i = h+1, i/2 {
		beside := max(limits[h].low, limits[h+1].low-n)
		if !few {
			beside = min(limits[h].high, limits[h+1].high-n)
		}
		if beside < limits[h].low || beside > limits[h].high {
			return plain{}, false
		}
		lay(h, i^1, beside)
		n += beside
	}
	return p, n <= c.Most
}

// wantBound asks of a window of each place that n pairs are right for it, and that by ones more are not; how often that was asked.
func wantBound(t *testing.T, c api.Config, size, h, n, more int) int {
	t.Helper()
	asked := 0
	w := c.Seg << h
	for i := range size / w {
		fine, is := bounding(c, size, h, i, n, more > 0)
		broken, may := bounding(c, size, h, i, n+more, more > 0)
		if !is || !may || len(fine.wrong(c)) > 0 || !slices.Equal(broken.wrong(c), [][2]int{{i * w, (i + 1) * w}}) {
			continue
		}
		asked++
		wantCheck(t, c, fine.packed(), api.OK, fmt.Sprintf("window %d of height %d with %d", i, h, n))
		wantAllRefused(t, c, broken.packed(), api.ErrBad, fmt.Sprintf("window %d of height %d with %d", i, h, n+more))
	}
	return asked
}

// P9.1: windows of each height that just hold, and with one pair too many, and one too few, while all others hold.
func TestWindowsAtTheirBounds(t *testing.T) {
	many, few := map[way]int{}, map[way]int{}
	for _, c := range append(named(), mixedConfigs(30, 300, 8)...) {
		for _, size := range capacities(c) {
			limits := boundsOf(c, size)
			for h, b := range limits {
				many[way{h, len(limits) - 1}] += wantBound(t, c, size, h, b.high, 1)
				if b.low > 0 {
					few[way{h, len(limits) - 1}] += wantBound(t, c, size, h, b.low, -1)
				}
			}
		}
	}
	for top := range 6 {
		for h := range top + 1 {
			if many[way{h, top}] == 0 || top > 0 && few[way{h, top}] == 0 {
				t.Errorf("of %d heights, height %d was asked %d and %d times", top, h, many[way{h, top}], few[way{h, top}])
			}
		}
	}
}

// P9.1: each set of slots of the chapter's config, and of one whose segments have room and that takes fewer pairs.
func TestCheckOfEachSet(t *testing.T) {
	one := turned(example(), func(c *api.Config) { c.LeafHigh, c.Most, c.Seg = 7, 6, 8 })
	for _, c := range []api.Config{example(), one} {
		for set := range 1 << 16 {
			p := empty(c.Seg, 16, 0)
			for at := range 16 {
				if set>>at&1 == 1 {
					p.cells[at] = &api.Pair{}
				}
			}
			want := api.OK
			if p.count(0, 16) > c.Most || len(p.wrong(c)) > 0 {
				want = api.ErrBad
			}
			wantCheck(t, c, p.packed(), want, "a set")
		}
	}
}

// P9.1: arrays that are a config's, whatever their keys, values and ledgers, and behind some slots were turned.
func TestCheckOfMixed(t *testing.T) {
	held, broken := 0, 0
	everyArray(t, append(named(), mixedConfigs(60, 600, 10)...), 2, func(c api.Config, p plain, s api.Slots) {
		s.Laid = allBits
		wantCheck(t, c, s, api.OK, "scattered")
		next := mixer(uint64(p.count(0, len(p.cells))) + p.laid)
		for range 4 {
			for range 1 + next(3) {
				at := next(len(p.cells))
				x := mixedPair(at, next)
				turn := &x
				if p.cells[at] != nil {
					turn = nil
				}
				p.cells = slices.Clone(p.cells)
				p.cells[at] = turn
			}
			want := api.OK
			held++
			if p.count(0, len(p.cells)) > c.Most || len(p.wrong(c)) > 0 {
				want = api.ErrBad
				held--
				broken++
			}
			wantCheck(t, c, p.packed(), want, "turned")
		}
	})
	if held < 1000 || broken < 1000 {
		t.Errorf("%d arrays held, and %d didn't", held, broken)
	}
}

// P9.2: a pair that is put at each place, or some, of arrays of all kinds; each way it may go is gone.
func TestPut(t *testing.T) {
	went := map[way]int{}
	ask := func(c api.Config, p plain, s api.Slots) {
		n := p.count(0, len(p.cells))
		next := mixer(p.laid + uint64(n))
		for _, k := range someNumbers(n) {
			x := mixedPair(k, next)
			got, e := Put(c, s, k, x)
			if n == c.Most {
				wantRefused(t, got, e, api.ErrFull, "Put", c, k, s)
				continue
			}
			want, w := p.put(c, k, x)
			went[w]++
			wantSlots(t, got, e, want, "Put", c, k, x, w, s)
		}
	}
	everyArray(t, named(), 3, ask)
	everyArray(t, mixedConfigs(40, 300, 12), 1, ask)
	for top := range 6 {
		for over := -1; over <= top; over++ {
			if went[way{over, top}] == 0 {
				t.Errorf("no pair was put where height %d of %d is over", over, top)
			}
		}
	}
}

// P9.2: the same of pairs that are taken.
func TestTake(t *testing.T) {
	went := map[way]int{}
	ask := func(c api.Config, p plain, s api.Slots) {
		n := p.count(0, len(p.cells))
		for _, k := range someNumbers(n) {
			got, e := Take(c, s, k)
			if k == n {
				wantRefused(t, got, e, api.ErrArg, "Take", c, k, s)
				continue
			}
			want, w := p.take(c, k)
			went[w]++
			wantSlots(t, got, e, want, "Take", c, k, w, s)
			if len(p.cells) == c.Least && w.over >= 0 {
				t.Errorf("the least capacity of %v has too few", c)
			}
		}
	}
	everyArray(t, named(), 3, ask)
	everyArray(t, mixedConfigs(40, 300, 13), 1, ask)
	for top := range 6 {
		for over := -1; over <= top; over++ {
			// Of height 0 all is a segment, and that is the least capacity: it never has too few.
			if went[way{over, top}] == 0 && (top > 0 || over < 0) {
				t.Errorf("no pair was taken where height %d of %d is under", over, top)
			}
		}
	}
}

// P9.2: into an array without pairs a pair comes to the first slot; it is the last one that is taken again, and the ledger stays.
func TestFirstAndLastPair(t *testing.T) {
	for _, c := range append(named(), mixedConfigs(60, 300, 14)...) {
		for _, x := range []api.Pair{{}, {Key: least, Val: greatest}, {Key: greatest, Val: least}, {Key: 0, Val: -1}} {
			p := empty(c.Seg, c.Least, 41)
			s, e := Put(c, p.packed(), 0, x)
			wantSlots(t, s, e, p.spread(0, c.Seg, []api.Pair{x}), "Put into an array without pairs", c, x)
			if s.Words[0] != 1 || s.Laid != 42 {
				t.Errorf("the first pair of %v: %v", c, s)
			}
			for _, k := range badNumbers(1) {
				got, e := Take(c, s, k)
				wantRefused(t, got, e, api.ErrArg, "Take", c, k)
			}
			s, e = Take(c, s, 0)
			wantSlots(t, s, e, empty(c.Seg, c.Least, 42), "Take of the last one", c, x)
			for _, k := range append(badNumbers(0), 0) {
				got, e := Take(c, s, k)
				wantRefused(t, got, e, api.ErrArg, "Take from an array without pairs", c, k)
				if k != 0 {
					got, e = Put(c, s, k, x)
					wantRefused(t, got, e, api.ErrArg, "Put into an array without pairs", c, k)
				}
			}
		}
	}
}

// P9.2: the last pair that is taken stands anywhere.
func TestTakeOfTheLastOne(t *testing.T) {
	for _, c := range named() {
		for at := range c.Least {
			p := empty(c.Seg, c.Least, 7)
			p.cells[at] = &api.Pair{Key: greatest, Val: -1}
			s, e := Take(c, p.packed(), 0)
			wantSlots(t, s, e, empty(c.Seg, c.Least, 7), "Take of the last one", at)
			for k := range 2 {
				x := api.Pair{Key: least, Val: int64(k)}
				want, _ := p.put(c, k, x)
				s, e = Put(c, p.packed(), k, x)
				wantSlots(t, s, e, want, "Put beside one pair", at, k)
			}
		}
	}
}

// P9.2: with one pair less than Most one comes, and none behind it; a number that is none is told ahead of that.
func TestMost(t *testing.T) {
	for _, c := range append(append(named(), mixedConfigs(60, 500, 15)...), turned(growing(), func(c *api.Config) { c.Most = 1 }), turned(growing(), func(c *api.Config) { c.Most = 33 })) {
		s, e := Load(c, empty(c.Seg, c.Least, 0).packed(), mixedPairs(c.Most-1, 3))
		for _, k := range []int{0, (c.Most - 1) / 2, c.Most - 1} {
			full, f := Put(c, s, k, api.Pair{Key: 6})
			if e != api.OK || f != api.OK || manyPairs(full) != c.Most {
				t.Fatalf("Put at %d of one less than Most of %v: %d, %d", k, c, int(e), int(f))
			}
			for _, k := range []int{0, 1, c.Most / 2, c.Most} {
				got, e := Put(c, full, k, api.Pair{Key: 7})
				wantRefused(t, got, e, api.ErrFull, "Put behind Most", c, k)
			}
			for _, k := range badNumbers(c.Most) {
				got, e := Put(c, full, k, api.Pair{Key: 7})
				wantRefused(t, got, e, api.ErrArg, "Put behind Most", c, k)
			}
			for _, k := range append(badNumbers(c.Most), c.Most) {
				got, e := Take(c, full, k)
				wantRefused(t, got, e, api.ErrArg, "Take of Most", c, k)
			}
		}
	}
}

// P9.2: numbers that are no places among the pairs.
func TestNumberRefused(t *testing.T) {
	everyArray(t, append(named(), mixedConfigs(20, 200, 16)...), 1, func(c api.Config, p plain, s api.Slots) {
		n := p.count(0, len(p.cells))
		for _, k := range badNumbers(n) {
			got, e := Put(c, s, k, api.Pair{Key: 1, Val: 2})
			wantRefused(t, got, e, api.ErrArg, "Put", c, k, s)
			got, e = Take(c, s, k)
			wantRefused(t, got, e, api.ErrArg, "Take", c, k, s)
		}
	})
}

// P9.2: keys need not rise, and may come again: places alone tell.
func TestPutByPlaceAlone(t *testing.T) {
	c := growing()
	s, e := New(c)
	var l []api.Pair
	for i := range 64 {
		x := api.Pair{Key: numbers()[i%10], Val: int64(-i)}
		k := i * 7 % (i + 1)
		l = inserted(l, k, x)
		s, e = Put(c, s, k, x)
		got, f := slots.Pairs(s, 0, len(s.Keys))
		if e != api.OK || f != api.OK || !slices.Equal(got, l) {
			t.Fatalf("Put %d at %d: %v, %d", i, k, got, int(e))
		}
	}
}

// P9.2: where all has too few, half of its slots do: of an array that is a config's one pair less never asks for less than half.
func TestHalvedOnce(t *testing.T) {
	halvings := 0
	for _, c := range append(append(named(), widest()), mixedConfigs(300, api.MaxMost, 17)...) {
		all := capacities(c)
		for i, size := range all[1:] {
			limits := boundsOf(c, size)
			n, before := limits[len(limits)-1].low, boundsOf(c, all[i])
			if n-1 < before[len(before)-1].low {
				t.Errorf("%d of %d slots of %v are too few for half of them", n-1, size, c)
			}
			if size > 4096 {
				continue
			}
			l := mixedPairs(n, uint64(size))
			p := empty(c.Seg, size, 3).spread(0, size, l)
			for _, k := range []int{0, n / 2, n - 1} {
				s, e := Take(c, p.packed(), k)
				wantSlots(t, s, e, empty(c.Seg, size/2, p.laid).spread(0, size/2, slices.Delete(slices.Clone(l), k, k+1)), "Take", c, k, size)
				halvings++
			}
		}
	}
	if halvings < 300 {
		t.Errorf("%d halvings", halvings)
	}
}

// P9.3: none, as many as fill each capacity, one more, Most, and one more, in order and not, whatever stood there.
func TestLoad(t *testing.T) {
	for _, c := range append(named(), mixedConfigs(40, 500, 18)...) {
		ns := []int{0, 1, 2, c.Most - 1, c.Most, c.Most + 1, c.Most + 2, 2*c.Most + 1}
		for _, size := range capacities(c) {
			filled := size * c.RootHigh / c.Den
			ns = append(ns, filled-1, filled, filled+1)
		}
		next := mixer(5)
		for _, size := range capacities(c) {
			n := counts(c, size, next)
			p := scattered(c, size, n[next(len(n))], next)
			for _, n := range ns {
				for _, l := range [][]api.Pair{risingPairs(n), mixedPairs(n, uint64(n)), make([]api.Pair, n)} {
					got, e := Load(c, p.packed(), l)
					if n > c.Most {
						wantRefused(t, got, e, api.ErrFull, "Load", c, n)
					} else {
						wantSlots(t, got, e, p.load(c, l), "Load", c, n)
						wantCheck(t, c, got, api.OK, "Load")
					}
				}
			}
			got, e := Load(c, p.packed(), nil)
			wantSlots(t, got, e, empty(c.Seg, c.Least, p.laid), "Load of none", c)
		}
	}
}

// P9.3: each number of pairs of small configs.
func TestLoadOfEachNumber(t *testing.T) {
	for _, c := range []api.Config{example(), growing(), flat(), turned(growing(), func(c *api.Config) { c.Most = 57 })} {
		for n := range c.Most + 3 {
			l := mixedPairs(n, uint64(n))
			p := empty(c.Seg, c.Least, 9)
			got, e := Load(c, p.packed(), l)
			if n > c.Most {
				wantRefused(t, got, e, api.ErrFull, "Load", c, n)
				continue
			}
			wantSlots(t, got, e, p.load(c, l), "Load", c, n)
		}
	}
}
