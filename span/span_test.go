package span

import (
	"slices"
	"testing"

	"shelfmark/api"
	"shelfmark/occ"
	"shelfmark/seek"
)

func TestExamples(t *testing.T) {
	s := placed(4, 8, []int{1, 4, 6}, []int64{5, 9, 12}).packed()
	pair := func(key int64) answer { return answer{api.Pair{Key: key, Val: valOf(key)}, api.OK} }
	p, e := Floor(s, 9)
	wantAnswer(t, p, e, pair(9), "Floor", 9)
	p, e = Floor(s, 11)
	wantAnswer(t, p, e, pair(9), "Floor", 11)
	p, e = Floor(s, 4)
	wantAnswer(t, p, e, answer{e: api.ErrNone}, "Floor", 4)
	p, e = Ceiling(s, 10)
	wantAnswer(t, p, e, pair(12), "Ceiling", 10)
	p, e = Select(s, 1)
	wantAnswer(t, p, e, pair(9), "Select", 1)
	l, e := Scan(s, 6, 12, 1)
	if e != api.OK || !slices.Equal(l, []api.Pair{pair(9).pair}) {
		t.Errorf("Scan of 6 to 12, most 1: %v, error %d", l, int(e))
	}
}

// wantAll asks all calls of an array that is sorted.
func wantAll(t *testing.T, s api.Slots, l []api.Pair, keys []int64, mosts []int) {
	t.Helper()
	wantEnds(t, s, l)
	for k := -2; k <= len(l)+2; k++ {
		wantSelect(t, s, l, k)
	}
	for _, key := range keys {
		wantSides(t, s, l, key)
		for _, to := range keys {
			for _, most := range mosts {
				wantScan(t, s, l, key, to, most)
			}
		}
	}
}

// P12.1 and P12.2: all small arrays of a few keys, sorted or not, gaps in each place: a gap's 0 is no key.
func TestEverySmall(t *testing.T) {
	for _, keys := range [][]int64{{-1, 0, 1}, {least, 0, greatest}, {-9, -7, -5}, {5, 7, 9}} {
		everySmall(4, 4, keys, func(p plain) {
			s := p.packed()
			if !p.sorted() {
				wantRefused(t, s, api.ErrOrder, "keys", p.cells)
				return
			}
			wantAll(t, s, p.pairs(), beside(keys), []int{-1, 0, 1, 2, 3, 4, 1000, 1001})
		})
	}
}

// P12.1 and P12.2: each occupancy of 8 slots, by one segment and by two, each key there and each one beside it, from each to each.
func TestEveryOccupancy(t *testing.T) {
	for _, seg := range []int{4, 8} {
		everySmall(seg, 8, []int64{0}, func(p plain) {
			at := p.slots()
			for i, keys := range risingKeys(len(at)) {
				risen := placed(seg, 8, at, keys)
				asked := beside(keys)
				if i%3 != len(at)%3 {
					asked = beside(nil)
				}
				wantAll(t, risen.packed(), risen.pairs(), asked, []int{0, 1, len(at) - 1, len(at), 1000})
			}
		})
	}
}

// P12.1: arrays of many shapes, with pairs here and there, all keys that are there, and those beside them.
func TestNeighbours(t *testing.T) {
	next := mixer(21)
	everySorted(t, shapes(), func(p plain, s api.Slots) {
		l, keys := p.pairs(), p.keys()
		wantEnds(t, s, l)
		if len(keys) > 40 {
			keys = few(keys, next)
		}
		for _, key := range beside(keys) {
			wantSides(t, s, l, key)
		}
	})
}

// P12.1: full arrays, and such with a key in each second or third slot, asked for every key.
func TestNeighboursOfEachKey(t *testing.T) {
	for _, gaps := range []int{1, 2, 3} {
		for _, shape := range [][2]int{{4, 128}, {64, 256}, {16, 512}} {
			p := plain{shape[0], make([]cell, shape[1])}
			for at := range p.cells {
				if at%gaps == 0 {
					p.cells[at] = cell{true, api.Pair{Key: int64(2*at - shape[1]), Val: int64(at * at % 7)}}
				}
			}
			s, l := p.packed(), p.pairs()
			for _, key := range beside(p.keys()) {
				wantSides(t, s, l, key)
			}
		}
	}
}

// P12.1: without a pair there is no neighbour of any key; one pair is both ends, wherever it stands.
func TestNoneAndOne(t *testing.T) {
	for _, shape := range shapes() {
		s := plain{shape[0], make([]cell, shape[1])}.packed()
		wantAll(t, s, nil, []int64{least, -1, 0, 1, greatest}, []int{0, 1, 1000})
		for _, at := range []int{0, 1, shape[1] / 2, shape[1] - 1} {
			for _, key := range []int64{least, least + 1, -5, 0, 5, greatest - 1, greatest} {
				p := placed(shape[0], shape[1], []int{at}, []int64{key})
				wantAll(t, p.packed(), p.pairs(), beside([]int64{key}), []int{0, 1, 2})
			}
		}
	}
}

// P12.1 and P12.2: keys at both ends of 64 bits, alone, together and with others; values are any numbers too.
func TestEndsOf64Bits(t *testing.T) {
	for _, keys := range [][]int64{
		{least, greatest}, {least, least + 1}, {greatest - 1, greatest}, {least, 0}, {0, greatest},
		{least, -1, 0, greatest}, {least, least + 1, greatest - 1, greatest}, {least + 1, greatest - 1},
	} {
		var at []int
		for k := range keys {
			at = append(at, 2*k+1)
		}
		p := placed(4, 8, at, keys)
		for i, slot := range at {
			p.cells[slot].pair.Val = []int64{greatest, least, 0, -1}[i]
		}
		wantAll(t, p.packed(), p.pairs(), beside(keys), []int{0, 1, 2, 4, 1000})
	}
}

// P12.2: numbers of pairs, and of none, of many shapes.
func TestSelect(t *testing.T) {
	next := mixer(8)
	everySorted(t, shapes(), func(p plain, s api.Slots) {
		l := p.pairs()
		for _, k := range numbers(len(l), next) {
			wantSelect(t, s, l, k)
		}
	})
	p := placed(16, 256, rows(16, 256)[12], risingKeys(len(rows(16, 256)[12]))[6])
	s, l := p.packed(), p.pairs()
	for k := range len(l) {
		wantSelect(t, s, l, k)
	}
}

// P12.2: runs of many shapes, between keys that are there, and such as are not, up to and from above.
func TestScan(t *testing.T) {
	next := mixer(33)
	everySorted(t, shapes(), func(p plain, s api.Slots) {
		l := p.pairs()
		keys := beside(few(p.keys(), next))
		for range 12 {
			from, to := keys[next(len(keys))], keys[next(len(keys))]
			most := mosts(len(l))
			wantScan(t, s, l, from, to, most[next(len(most))])
			wantScan(t, s, l, from, to, 1000)
		}
		wantScan(t, s, l, least, greatest, 1000)
		wantScan(t, s, l, least, greatest, len(l)/2)
		wantScan(t, s, l, greatest, least, 1000)
	})
}

// P12.2: from and to the same: the pair of that key, or none.
func TestScanOfOneKey(t *testing.T) {
	p := placed(4, 16, []int{0, 2, 3, 7, 8, 13, 15}, []int64{least, -4, 0, 1, 6, 7, greatest})
	s, l := p.packed(), p.pairs()
	for _, key := range beside(p.keys()) {
		for _, most := range []int{0, 1, 2, 1000} {
			wantScan(t, s, l, key, key, most)
		}
	}
}

// P12.2: from above to there is none, also where keys stand between them, and where most may be 0.
func TestScanBackward(t *testing.T) {
	p := placed(4, 16, []int{0, 2, 3, 7, 8, 13, 15}, []int64{least, -4, 0, 1, 6, 7, greatest})
	s := p.packed()
	keys := beside(p.keys())
	for i, to := range keys {
		for _, from := range keys[i+1:] {
			for _, most := range []int{0, 1, 7, 1000} {
				if got, e := Scan(s, from, to, most); e != api.OK || len(got) > 0 {
					t.Errorf("Scan of %d to %d, most %d: %v, error %d", from, to, most, got, int(e))
				}
			}
		}
	}
}

// P12.2: most is from 0 to 1,000, whatever else is asked: also of none, of one key and from above to.
func TestScanMost(t *testing.T) {
	none := plain{4, make([]cell, 16)}
	one := placed(4, 16, []int{5}, []int64{0})
	full := placed(8, 2048, rows(8, 2048)[4], risingKeys(2048)[1])
	for _, p := range []plain{none, one, full} {
		s, l := p.packed(), p.pairs()
		for _, ends := range [][2]int64{{least, greatest}, {0, 0}, {0, 3000}, {-3000, -1}, {1, -1}, {greatest, least}} {
			for _, most := range mosts(len(l)) {
				wantScan(t, s, l, ends[0], ends[1], most)
			}
		}
	}
}

// P12.2: more keys between than most: the first most of them, from wherever on; as many, and fewer by one.
func TestScanOfMoreThanMost(t *testing.T) {
	for _, many := range []int{999, 1000, 1001, 1002, 1500, 2048} {
		var row []int
		for i := range many {
			row = append(row, i*4096/many)
		}
		p := placed(4, 4096, row, risingKeys(many)[1])
		s, l := p.packed(), p.pairs()
		for _, most := range []int{0, 1, 2, 500, 998, 999, 1000} {
			wantScan(t, s, l, least, greatest, most)
			wantScan(t, s, l, l[1].Key, greatest, most)
			wantScan(t, s, l, l[0].Key+1, l[many-1].Key-1, most)
			wantScan(t, s, l, least, l[min(most, many-1)].Key-1, most)
			for _, to := range []int{most - 1, most, most + 1} {
				wantScan(t, s, l, l[0].Key, l[min(max(to, 0), many-1)].Key, most)
			}
		}
	}
}

// P12.1 and P12.2: the most slots that may be.
func TestGreatShapes(t *testing.T) {
	for _, shape := range greatShapes() {
		next := mixer(5)
		for _, row := range rows(shape[0], shape[1]) {
			lists := risingKeys(len(row))
			p := placed(shape[0], shape[1], row, lists[next(len(lists))])
			s, l, keys := p.packed(), p.pairs(), p.keys()
			wantEnds(t, s, l)
			asked := beside(few(keys, next))
			for range 4 {
				from, to := asked[next(len(asked))], asked[next(len(asked))]
				wantSides(t, s, l, from)
				wantScan(t, s, l, from, to, next(1002))
			}
			wantScan(t, s, l, least, greatest, 1000)
			for _, k := range []int{-1, 0, next(len(l) + 1), len(l) - 1, len(l)} {
				wantSelect(t, s, l, k)
			}
		}
	}
}

// All: an array that may be, whose keys don't rise at one place alone, wherever that is.
func TestOneFall(t *testing.T) {
	for _, shape := range [][2]int{{4, 8}, {4, 64}, {16, 16}, {8, 128}} {
		for _, row := range rows(shape[0], shape[1]) {
			n := len(row)
			keys := risingKeys(n)[1]
			p := placed(shape[0], shape[1], row, keys)
			for k := 1; k < n; k++ {
				if n > 12 && k > 2 && k < n-2 && k != n/2 {
					continue
				}
				wantRefused(t, p.with(k, keys[k-1]).packed(), api.ErrOrder, "alike at", k)
				wantRefused(t, p.with(k-1, keys[k]).packed(), api.ErrOrder, "alike ahead of", k)
				wantRefused(t, p.with(k-1, keys[k]).with(k, keys[k-1]).packed(), api.ErrOrder, "fallen at", k)
			}
		}
	}
	for _, keys := range [][]int64{{greatest, least}, {least, least}, {greatest, greatest}, {0, least}, {greatest, 0}} {
		wantRefused(t, placed(4, 8, []int{0, 7}, keys).packed(), api.ErrOrder, "ends", keys)
	}
}

// All: an array that may not be is told ahead of keys that fall, of no keys, and of numbers that may not be.
func TestBadRefused(t *testing.T) {
	for _, shape := range shapes() {
		for i, row := range rows(shape[0], shape[1]) {
			n := len(row)
			keys := risingKeys(n)[i%8]
			p := placed(shape[0], shape[1], row, keys)
			wantSpoiltRefused(t, p)
			if n > 1 {
				wantSpoiltRefused(t, p.with(n-1, keys[0]))
			}
		}
	}
	wantRefused(t, api.Slots{}, api.ErrBad, "nothing")
	wantRefused(t, api.Slots{Seg: 4, Words: []uint64{}, Keys: []int64{}, Vals: []int64{}, Counts: []int{}}, api.ErrBad, "lists without elements")
	wantRefused(t, api.Slots{Seg: 4, Words: []uint64{allBits}, Keys: []int64{1, 2}, Vals: []int64{3}, Counts: []int{2}, Laid: 7}, api.ErrBad, "odd lists")
	for _, many := range []int{0, 1, 3, 5, 6, 12, 20, 24, api.MaxSlots - 4, 2 * api.MaxSlots} {
		wantRefused(t, plain{4, make([]cell, many)}.packed(), api.ErrBad, "slots", many)
	}
}

func wantSpoiltRefused(t *testing.T, p plain) {
	t.Helper()
	for _, bad := range spoilt(p) {
		wantRefused(t, bad.s, api.ErrBad, bad.why)
	}
}

// spoiltOne is an array that may not be, and why.
type spoiltOne struct {
	why string
	s   api.Slots
}

// spoilt are arrays that may not be, each by one thing alone.
func spoilt(p plain) []spoiltOne {
	var l []spoiltOne
	spoil := func(why string, turn func(s *api.Slots)) {
		s := p.packed()
		turn(&s)
		l = append(l, spoiltOne{why, s})
	}
	n := len(p.cells)
	for _, seg := range []int{0, 1, 3, 12, 128, -p.seg, least, greatest} {
		spoil("a segment that may not be", func(s *api.Slots) { s.Seg = seg })
	}
	spoil("a slot less", func(s *api.Slots) { s.Keys, s.Vals = s.Keys[:n-1], s.Vals[:n-1] })
	spoil("a slot more", func(s *api.Slots) { s.Keys, s.Vals = append(s.Keys, 0), append(s.Vals, 0) })
	spoil("no slots", func(s *api.Slots) { s.Words, s.Keys, s.Vals, s.Counts = nil, nil, nil, nil })
	spoil("a key less", func(s *api.Slots) { s.Keys = s.Keys[:n-1] })
	spoil("a value less", func(s *api.Slots) { s.Vals = s.Vals[:n-1] })
	spoil("no values", func(s *api.Slots) { s.Vals = nil })
	spoil("no words", func(s *api.Slots) { s.Words = nil })
	spoil("a word more", func(s *api.Slots) { s.Words = append(s.Words, 0) })
	spoil("no counts", func(s *api.Slots) { s.Counts = nil })
	for _, by := range []int{1, -1, least} {
		spoil("a count that is wrong", func(s *api.Slots) { s.Counts[len(s.Counts)-1] += by })
	}
	for _, at := range []int{0, n - 1} {
		spoil("a bit that is not counted, or a count without one", func(s *api.Slots) { s.Words[at/64] ^= 1 << uint(at%64) })
		if !p.cells[at].is {
			spoil("a key in a gap", func(s *api.Slots) { s.Keys[at] = greatest })
			spoil("a value in a gap", func(s *api.Slots) { s.Vals[at] = least })
		}
	}
	return l
}

// P12.3: of arrays that are sorted, are not, and may not be; what stands behind the lists is neither turned nor asked.
func TestOnlyRead(t *testing.T) {
	p := placed(4, 16, []int{0, 3, 7, 8, 15}, []int64{-6, 0, 4, 7, 9})
	bad := p.packed()
	bad.Counts[0]++
	for _, s := range []api.Slots{p.packed(), p.with(2, 0).packed(), plain{4, make([]cell, 16)}.packed(), bad, {}} {
		wide := roomy(s)
		before := whole(wide)
		for _, key := range beside(p.keys()) {
			a, e := Floor(s, key)
			b, f := Floor(wide, key)
			wantAnswer(t, b, f, answer{a, e}, "Floor with room behind", key)
			a, e = Ceiling(s, key)
			b, f = Ceiling(wide, key)
			wantAnswer(t, b, f, answer{a, e}, "Ceiling with room behind", key)
			l, e := Scan(s, -6, key, 3)
			m, f := Scan(wide, -6, key, 3)
			if e != f || !slices.Equal(l, m) {
				t.Errorf("Scan with room behind: %v, %d; want %v, %d", m, int(f), l, int(e))
			}
		}
		for k := -1; k < 7; k++ {
			a, e := Select(s, k)
			b, f := Select(wide, k)
			wantAnswer(t, b, f, answer{a, e}, "Select with room behind", k)
		}
		Min(wide)
		Max(wide)
		if !alike(whole(wide), before) {
			t.Fatalf("%v was turned", s)
		}
	}
}

// P12.3: pairs that are scanned are new memory each time: whoever turns them, or puts more behind them, turns neither the array nor others.
func TestScansShareNothing(t *testing.T) {
	p := placed(8, 2048, rows(8, 2048)[12], risingKeys(len(rows(8, 2048)[12]))[1])
	s := roomy(p.packed())
	before := whole(s)
	for _, most := range []int{1, 2, 3, 100, 1000} {
		a, _ := Scan(s, least, greatest, most)
		b, _ := Scan(s, least, greatest, most)
		want := slices.Clone(a)
		b = b[:cap(b)]
		for i := range b {
			b[i] = api.Pair{Key: -1, Val: 77}
		}
		if !slices.Equal(a, want) || !alike(whole(s), before) {
			t.Errorf("turned by what was scanned, most %d", most)
		}
		if c, _ := Scan(s, least, greatest, most); !slices.Equal(c, want) {
			t.Errorf("most %d: scanned anew %v; want %v", most, c, want)
		}
	}
}

// P12.3: what was answered stays as it was when the array is turned in its memory, and no call keeps anything.
func TestNothingKept(t *testing.T) {
	p := placed(4, 16, []int{1, 6, 9, 14}, []int64{-4, 0, 4, 8})
	s := p.packed()
	first := p.pairs()
	scanned, _ := Scan(s, least, greatest, 1000)
	for k, key := range []int64{-9, -3, 6, greatest} {
		p = p.with(k, key)
		copy(s.Keys, p.packed().Keys)
		wantAll(t, s, p.pairs(), beside(p.keys()), []int{0, 2, 1000})
	}
	if !slices.Equal(scanned, first) {
		t.Errorf("what was scanned turned to %v; want %v", scanned, first)
	}
	copy(s.Keys, p.with(1, -9).packed().Keys)
	wantRefused(t, s, api.ErrOrder, "turned so that it falls")
	s.Seg = 3
	wantRefused(t, s, api.ErrBad, "turned so that it may not be")
}

// P12.4: the pair of a number has as many keys below it.
func TestNumberIsRank(t *testing.T) {
	everySorted(t, shapes(), func(p plain, s api.Slots) {
		all, _ := occ.Count(s.Words, len(s.Keys), 0, len(s.Keys))
		for k := 0; k < all; k += 1 + k/9 {
			x, e := Select(s, k)
			rank, f := seek.Rank(s, x.Key)
			if e != api.OK || f != api.OK || rank != k {
				t.Errorf("the pair %d is %v, error %d, with %d keys below it, error %d", k, x, int(e), rank, int(f))
			}
		}
	})
}

// P12.4: scans of two halves are the scan of all, wherever it is halved.
func TestHalves(t *testing.T) {
	next := mixer(91)
	everySorted(t, shapes(), func(p plain, s api.Slots) {
		all, e := Scan(s, least, greatest, 1000)
		if e != api.OK || !slices.Equal(all, p.pairs()) {
			t.Errorf("all of %v: %v, error %d", p.pairs(), all, int(e))
		}
		for _, key := range beside(few(p.keys(), next)) {
			if key == greatest {
				continue
			}
			low, e := Scan(s, least, key, 1000)
			high, f := Scan(s, key+1, greatest, 1000)
			if e != api.OK || f != api.OK || !slices.Equal(slices.Concat(low, high), all) {
				t.Errorf("halves at %d: %v, %v, errors %d, %d; want %v", key, low, high, int(e), int(f), all)
			}
		}
	})
}

// P12.4: between a floor and a ceiling there is no key; of a key that is there both are its pair; Min and Max are the neighbours of both ends.
func TestNothingBetween(t *testing.T) {
	next := mixer(17)
	everySorted(t, shapes(), func(p plain, s api.Slots) {
		for _, key := range beside(few(p.keys(), next)) {
			wantNothingBetween(t, s, key)
		}
		a, e := Min(s)
		b, f := Ceiling(s, least)
		c, g := Select(s, 0)
		if a != b || e != f || (g == api.OK) != (e == api.OK) || c != a {
			t.Errorf("Min %v, %d; Ceiling %v, %d; Select %v, %d", a, int(e), b, int(f), c, int(g))
		}
		a, e = Max(s)
		b, f = Floor(s, greatest)
		if a != b || e != f {
			t.Errorf("Max %v, %d; Floor %v, %d", a, int(e), b, int(f))
		}
	})
}

func wantNothingBetween(t *testing.T, s api.Slots, key int64) {
	t.Helper()
	low, high := int64(least), int64(greatest)
	ends := 0
	floor, e := Floor(s, key)
	if e == api.OK {
		low = floor.Key
		ends++
	}
	ceiling, f := Ceiling(s, key)
	if f == api.OK {
		high = ceiling.Key
		ends++
	}
	if low > key || high < key {
		t.Errorf("of %d: floor %d, ceiling %d", key, low, high)
	}
	if low == high {
		ends--
	}
	if l, g := Scan(s, low, high, 1000); g != api.OK || len(l) != ends {
		t.Errorf("of %d: from floor %v to ceiling %v: %v, error %d", key, floor, ceiling, l, int(g))
	}
}
