package seek

import (
	"testing"

	"shelfmark/api"
	"shelfmark/occ"
)

func TestExamples(t *testing.T) {
	s := placed(4, 8, []int{1, 6}, []int64{5, 9}).packed()
	wantCheck(t, s, api.OK, "the example")
	for _, x := range []struct {
		call func(api.Slots, int64) (int, api.Errno)
		name string
		key  int64
		want answer
	}{
		{Rank, "Rank", 9, answer{1, api.OK}},
		{Find, "Find", 9, answer{6, api.OK}},
		{Next, "Next", 6, answer{6, api.OK}},
		{Next, "Next", 10, answer{0, api.ErrNone}},
		{Last, "Last", 9, answer{1, api.OK}},
		{Last, "Last", 5, answer{0, api.ErrNone}},
	} {
		if n, e := x.call(s, x.key); (answer{n, e}) != x.want {
			t.Errorf("%s of %d = %d, %d; want %v", x.name, x.key, n, int(e), x.want)
		}
	}
}

// everySmall hands on all arrays of so many slots, each of them a gap, or occupied by one of the keys.
func everySmall(seg, many int, keys []int64, do func(p plain)) {
	p := plain{seg, make([]cell, many)}
	kinds := len(keys) + 1
	all := 1
	for range many {
		all *= kinds
	}
	for code := range all {
		for at := range p.cells {
			p.cells[at] = cell{}
			if kind := code % kinds; kind > 0 {
				p.cells[at] = cell{true, keys[kind-1]}
			}
			code /= kinds
		}
		do(p)
	}
}

// P10.1 to P10.3: all small arrays of a few keys, sorted or not, gaps in each place: a gap's 0 is no key.
func TestEverySmall(t *testing.T) {
	for _, keys := range [][]int64{{-1, 0, 1}, {least, 0, greatest}, {-9, -7, -5}, {5, 7, 9}} {
		for _, many := range []int{4, 8} {
			everySmall(4, many, keys, func(p plain) {
				s := p.packed()
				if !p.sorted() {
					wantCheck(t, s, api.ErrOrder, "keys", p.cells)
					for _, key := range keys {
						wantAnswers(t, s, key, refused(api.ErrOrder), "keys", p.cells)
					}
					return
				}
				wantCheck(t, s, api.OK, "keys", p.cells)
				for _, key := range beside(keys) {
					wantAnswers(t, s, key, told(p, key), "keys", p.cells)
				}
			})
		}
	}
}

// P10.2 and P10.3: each occupancy of 8 slots, by one segment and by two, each key there and each one beside it.
func TestEveryOccupancy(t *testing.T) {
	for _, seg := range []int{4, 8} {
		everySmall(seg, 8, []int64{0}, func(p plain) {
			at := p.slots()
			for _, keys := range risingKeys(len(at)) {
				risen := placed(seg, 8, at, keys)
				s := risen.packed()
				wantCheck(t, s, api.OK, "keys", at, keys)
				for _, key := range beside(keys) {
					wantAnswers(t, s, key, told(risen, key), "keys", at, keys)
				}
			}
		})
	}
}

// P10.2 and P10.3: arrays of many shapes, with pairs here and there, all keys that are there, and those beside them.
func TestManyShapes(t *testing.T) {
	next := mixer(21)
	everySorted(t, shapes(), func(p plain, s api.Slots) {
		wantCheck(t, s, api.OK, "keys", p.cells)
		keys := p.keys()
		if len(keys) > 40 {
			keys = few(keys, next)
		}
		for _, key := range beside(keys) {
			wantAnswers(t, s, key, told(p, key), "keys", p.cells)
		}
	})
}

// P10.2 and P10.3: full arrays, and such with a key in each second slot, asked for every key.
func TestEachKeyOfMany(t *testing.T) {
	for _, gaps := range []int{1, 2, 3} {
		for _, shape := range [][2]int{{4, 128}, {64, 256}, {16, 512}} {
			p := plain{shape[0], make([]cell, shape[1])}
			for at := range p.cells {
				if at%gaps == 0 {
					p.cells[at] = cell{true, int64(2*at - shape[1])}
				}
			}
			s := p.packed()
			for _, key := range beside(p.keys()) {
				wantAnswers(t, s, key, told(p, key), "each key of", shape, gaps)
			}
		}
	}
}

// P10.2 and P10.3: the most slots that may be.
func TestGreatShapes(t *testing.T) {
	for _, shape := range greatShapes() {
		next := mixer(5)
		for _, row := range rows(shape[0], shape[1]) {
			lists := risingKeys(len(row))
			keys := lists[next(len(lists))]
			p := placed(shape[0], shape[1], row, keys)
			s := p.packed()
			wantCheck(t, s, api.OK, "great", shape, len(row))
			for _, key := range beside(few(keys, next)[:min(len(keys), 2+next(5))]) {
				if got, want := asked(s, key), told(p, key); got != want {
					t.Errorf("of %v, with %d keys: of %d %v; want %v", shape, len(row), key, got, want)
				}
			}
		}
	}
}

// P10.1: values and the ledger are any numbers, and are in no order.
func TestValuesAreNotSorted(t *testing.T) {
	s := placed(4, 8, []int{0, 3, 4, 6}, []int64{-1, 0, 1, 2}).packed()
	for _, vals := range [][]int64{{0, 0, 0, 0}, {9, 7, 7, 5}, {greatest, least, 0, greatest}} {
		s.Vals[0], s.Vals[3], s.Vals[4], s.Vals[6] = vals[0], vals[1], vals[2], vals[3]
		for _, laid := range []uint64{0, 1, 1 << 63, allBits} {
			s.Laid = laid
			wantCheck(t, s, api.OK, "values", vals, laid)
			wantAnswers(t, s, 1, answers{answer{n: 2}, answer{n: 4}, answer{n: 4}, answer{n: 3}}, "values", vals, laid)
		}
	}
}

// P10.1: an array that may be, whose keys don't rise at one place alone: alike there, or fallen, side by side and with gaps between.
func TestOneFall(t *testing.T) {
	for _, shape := range shapes() {
		for _, row := range rows(shape[0], shape[1]) {
			n := len(row)
			for _, keys := range risingKeys(n) {
				p := placed(shape[0], shape[1], row, keys)
				for k := 1; k < n; k++ {
					if n > 40 && k > 3 && k < n-3 && k%31 > 1 && k != n/2 {
						continue
					}
					wantOrder(t, p.with(k, keys[k-1]), k)
					wantOrder(t, p.with(k-1, keys[k]), k)
					wantOrder(t, p.with(k-1, keys[k]).with(k, keys[k-1]), k)
				}
			}
		}
	}
}

// wantOrder asks that a fall is told by each call, also of keys that the fall isn't near to.
func wantOrder(t *testing.T, p plain, k int) {
	t.Helper()
	s := p.packed()
	wantCheck(t, s, api.ErrOrder, "a fall at", k)
	for _, key := range []int64{least, p.keys()[0], p.keys()[k], 0, greatest} {
		wantAnswers(t, s, key, refused(api.ErrOrder), "a fall at", k)
	}
	if !alike(s, p.packed()) {
		t.Fatalf("an array with a fall at %d was turned", k)
	}
}

// P10.1: falls at the first place, the last one and one amid, of the most slots that may be.
func TestOneFallOfGreat(t *testing.T) {
	for _, shape := range greatShapes() {
		many := shape[1]
		for _, gaps := range []int{1, 3, many / 8, many - 1} {
			var row []int
			var keys []int64
			for at := 0; at < many; at += gaps {
				row, keys = append(row, at), append(keys, int64(2*at))
			}
			n := len(row)
			p := placed(shape[0], many, row, keys)
			if e := Check(p.packed()); e != api.OK {
				t.Errorf("Check of %v, %d apart: %d", shape, gaps, int(e))
			}
			for _, k := range []int{1, n / 2, n - 1} {
				for _, bad := range []plain{p.with(k, keys[k-1]), p.with(k, keys[k-1]-1)} {
					if e := Check(bad.packed()); e != api.ErrOrder {
						t.Errorf("Check of %v, %d apart, a fall at %d: %d", shape, gaps, k, int(e))
					}
				}
			}
		}
	}
}

// P10.1: the greatest number ahead of the least one falls, though their difference runs over.
func TestFallFromGreatest(t *testing.T) {
	for _, at := range [][]int{{0, 1}, {0, 3}, {3, 4}, {0, 7}, {6, 7}} {
		wantRefused(t, placed(4, 8, at, []int64{greatest, least}).packed(), api.ErrOrder, "greatest, least", at)
		wantRefused(t, placed(4, 8, at, []int64{greatest, greatest}).packed(), api.ErrOrder, "greatest twice", at)
		wantRefused(t, placed(4, 8, at, []int64{least, least}).packed(), api.ErrOrder, "least twice", at)
		wantRefused(t, placed(4, 8, at, []int64{0, least}).packed(), api.ErrOrder, "0, least", at)
		wantRefused(t, placed(4, 8, at, []int64{greatest, -2}).packed(), api.ErrOrder, "greatest, -2", at)
		wantRefused(t, placed(4, 8, at, []int64{0, 0}).packed(), api.ErrOrder, "0 twice", at)
		wantCheck(t, placed(4, 8, at, []int64{least, greatest}).packed(), api.OK, "least, greatest", at)
	}
}

// P10.1: an array that may not be is told ahead of keys that fall, and of keys that aren't there.
func TestBadRefused(t *testing.T) {
	for _, shape := range shapes() {
		for _, row := range rows(shape[0], shape[1]) {
			n := len(row)
			lists := risingKeys(n)
			p := placed(shape[0], shape[1], row, lists[1])
			wantSpoiltRefused(t, p)
			if n > 1 {
				wantSpoiltRefused(t, p.with(n-1, lists[1][0]))
				wantSpoiltRefused(t, p.with(0, lists[1][n-1]))
			}
		}
	}
	wantRefused(t, api.Slots{}, api.ErrBad, "nothing")
	wantRefused(t, api.Slots{Seg: 4, Words: []uint64{}, Keys: []int64{}, Vals: []int64{}, Counts: []int{}}, api.ErrBad, "lists without elements")
	wantRefused(t, api.Slots{Seg: 4, Words: []uint64{allBits}, Keys: []int64{1, 2}, Vals: []int64{3}, Counts: []int{2}, Laid: 7}, api.ErrBad, "odd lists")
}

func wantSpoiltRefused(t *testing.T, p plain) {
	t.Helper()
	for _, bad := range spoilt(p) {
		wantRefused(t, bad.s, api.ErrBad, bad.why)
	}
}

// P10.1: more slots than may be, and numbers of slots that are no power of segments.
func TestSizesRefused(t *testing.T) {
	for _, many := range []int{0, 1, 3, 5, 6, 12, 20, 24, api.MaxSlots - 4, api.MaxSlots + 4, 2 * api.MaxSlots} {
		p := plain{4, make([]cell, many)}
		wantRefused(t, p.packed(), api.ErrBad, "slots", many)
		if many > 3 {
			wantRefused(t, placed(4, many, []int{0, 2}, []int64{1, 5}).packed(), api.ErrBad, "slots with keys", many)
		}
	}
	for _, seg := range []int{1, 2, 3, 5, 6, 12, 48, 128, 256} {
		wantRefused(t, plain{seg, make([]cell, 2*seg)}.packed(), api.ErrBad, "segments", seg)
	}
}

// spoiltOne is an array that may not be, and why.
type spoiltOne struct {
	why string
	s   api.Slots
}

// spoilt are arrays that may not be, each by one thing alone.
func spoilt(p plain) []spoiltOne {
	var l []spoiltOne
	spoil := func(why string, turn func(s *api.Slots)) {
		s := p.packed()
		turn(&s)
		l = append(l, spoiltOne{why, s})
	}
	n := len(p.cells)
	for _, seg := range []int{0, 1, 2, 3, 12, p.seg + 1, 128, -p.seg, least, greatest} {
		spoil("a segment that may not be", func(s *api.Slots) { s.Seg = seg })
	}
	spoil("a slot less", func(s *api.Slots) { s.Keys, s.Vals = s.Keys[:n-1], s.Vals[:n-1] })
	spoil("a slot more", func(s *api.Slots) { s.Keys, s.Vals = append(s.Keys, 0), append(s.Vals, 0) })
	spoil("half of the slots", func(s *api.Slots) { s.Keys, s.Vals = s.Keys[:n/2], s.Vals[:n/2] })
	spoil("no slots", func(s *api.Slots) { s.Words, s.Keys, s.Vals, s.Counts = nil, nil, nil, nil })
	spoil("a key less", func(s *api.Slots) { s.Keys = s.Keys[:n-1] })
	spoil("a key more", func(s *api.Slots) { s.Keys = append(s.Keys, 0) })
	spoil("a value less", func(s *api.Slots) { s.Vals = s.Vals[:n-1] })
	spoil("a value more", func(s *api.Slots) { s.Vals = append(s.Vals, 0) })
	spoil("no values", func(s *api.Slots) { s.Vals = nil })
	spoil("no words", func(s *api.Slots) { s.Words = nil })
	spoil("a word more", func(s *api.Slots) { s.Words = append(s.Words, 0) })
	spoil("no counts", func(s *api.Slots) { s.Counts = nil })
	spoil("a count more", func(s *api.Slots) { s.Counts = append(s.Counts, 0) })
	spoil("a count less", func(s *api.Slots) { s.Counts = s.Counts[:len(s.Counts)-1] })
	for _, by := range []int{1, -1, p.seg, least} {
		spoil("a count that is wrong", func(s *api.Slots) { s.Counts[len(s.Counts)-1] += by })
	}
	if len(p.cells) > p.seg {
		spoil("counts that are wrong, but add up", func(s *api.Slots) { s.Counts[0]++; s.Counts[1]-- })
	}
	if n < 64 {
		spoil("a bit beyond the slots", func(s *api.Slots) { s.Words[0] |= 1 << uint(n) })
	}
	for _, at := range []int{0, n / 2, n - 1} {
		spoil("a bit that is not counted, or a count without one", func(s *api.Slots) { s.Words[at/64] ^= 1 << uint(at%64) })
		if !p.cells[at].is {
			spoil("a key in a gap", func(s *api.Slots) { s.Keys[at] = greatest })
			spoil("a value in a gap", func(s *api.Slots) { s.Vals[at] = least })
		}
	}
	return l
}

// roomy is s with room behind its lists, in which something stands.
func roomy(s api.Slots) api.Slots {
	s.Words = append(s.Words, allBits, 5, 0)[:len(s.Words)]
	s.Keys = append(s.Keys, 7, least, 7, greatest, 0)[:len(s.Keys)]
	s.Vals = append(s.Vals, 1, 2, 3)[:len(s.Vals)]
	s.Counts = append(s.Counts, 1, 2, 3)[:len(s.Counts)]
	return s
}

// whole is a copy of s, the room behind its lists among it.
func whole(s api.Slots) api.Slots {
	s.Words = append([]uint64{}, s.Words[:cap(s.Words)]...)
	s.Keys = append([]int64{}, s.Keys[:cap(s.Keys)]...)
	s.Vals = append([]int64{}, s.Vals[:cap(s.Vals)]...)
	s.Counts = append([]int{}, s.Counts[:cap(s.Counts)]...)
	return s
}

// P10.4: of arrays that are sorted, are not, and may not be; what stands behind the lists is neither turned nor asked.
func TestOnlyRead(t *testing.T) {
	p := placed(4, 16, []int{0, 3, 7, 8, 15}, []int64{-6, 0, 4, 7, 9})
	bad := p.packed()
	bad.Counts[0]++
	for _, s := range []api.Slots{p.packed(), p.with(2, 0).packed(), p.with(4, least).packed(), plain{4, make([]cell, 16)}.packed(), bad, {}} {
		wide := roomy(s)
		before := whole(wide)
		wantCheck(t, wide, Check(s), "room behind", s)
		for _, key := range beside(p.keys()) {
			wantAnswers(t, wide, key, asked(s, key), "room behind", s)
			if !alike(whole(wide), before) {
				t.Fatalf("%v was turned by what was asked of %d", s, key)
			}
		}
	}
}

// P10.4: no call keeps anything: an array that was turned in its memory answers as what it is then.
func TestNothingKept(t *testing.T) {
	p := placed(4, 16, []int{1, 6, 9, 14}, []int64{-4, 0, 4, 8})
	s := p.packed()
	for k, key := range []int64{-9, -3, 6, greatest} {
		wantAnswers(t, s, 4, told(p, 4), "as it is", k)
		p = p.with(k, key)
		copy(s.Keys, p.packed().Keys)
		copy(s.Vals, p.packed().Vals)
		for _, asks := range beside(p.keys()) {
			wantAnswers(t, s, asks, told(p, asks), "turned", k)
		}
	}
	copy(s.Keys, p.with(1, -9).packed().Keys)
	wantRefused(t, s, api.ErrOrder, "turned so that it falls")
	s.Seg = 3
	wantRefused(t, s, api.ErrBad, "turned so that it may not be")
}

// P10.5: of many arrays and keys that rise, by the package's own answers.
func TestWhatFollows(t *testing.T) {
	next := mixer(77)
	everySorted(t, shapes(), func(p plain, s api.Slots) {
		keys := p.keys()
		if len(keys) > 12 {
			keys = few(keys, next)
		}
		ahead := 0
		for _, key := range beside(keys) {
			a := asked(s, key)
			if a.rank.e != api.OK || a.rank.n < ahead {
				t.Errorf("rank of %d: %v, behind %d", key, a.rank, ahead)
			}
			ahead = a.rank.n
			wantFollows(t, s, key, a)
		}
	})
}

// wantFollows holds the slots that are answered against the ranks.
func wantFollows(t *testing.T, s api.Slots, key int64, a answers) {
	t.Helper()
	many := len(s.Keys)
	all, _ := occ.Count(s.Words, many, 0, many)
	if (a.next.e == api.ErrNone) != (a.rank.n == all) || (a.last.e == api.ErrNone) != (a.rank.n == 0) {
		t.Errorf("of %d: %v, with %d keys", key, a, all)
	}
	if a.next.e == api.OK {
		n, _ := occ.Count(s.Words, many, 0, a.next.n)
		is, _ := occ.Has(s.Words, many, a.next.n)
		if n != a.rank.n || !is {
			t.Errorf("Next of %d: %v, ahead of which %d are occupied; want %v", key, a.next, n, a.rank)
		}
	}
	if a.last.e == api.OK {
		n, _ := occ.Count(s.Words, many, 0, a.last.n)
		is, _ := occ.Has(s.Words, many, a.last.n)
		if n != a.rank.n-1 || !is {
			t.Errorf("Last of %d: %v, ahead of which %d are occupied; want one fewer than %v", key, a.last, n, a.rank)
		}
	}
	found := answer{0, api.ErrNone}
	if a.next.e == api.OK && s.Keys[a.next.n] == key {
		found = a.next
	}
	if a.find != found {
		t.Errorf("Find of %d: %v; want %v", key, a.find, found)
	}
}
