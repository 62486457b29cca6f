package lay

import (
	"slices"
	"testing"

	"shelfmark/api"
	"shelfmark/slots"
	"shelfmark/spread"
)

// exampleOf is an array of 8 slots in which 5 and 6 stand in slots 0 and 1, and 8 in slot 5, outside the examples' part.
func exampleOf() plain {
	p := plain{4, make([]*api.Pair, 8), 3}
	p.cells[0] = &api.Pair{Key: 5, Val: 50}
	p.cells[1] = &api.Pair{Key: 6, Val: 60}
	p.cells[5] = &api.Pair{Key: 8, Val: 80}
	return p
}

func TestExamples(t *testing.T) {
	s, e := Even(exampleOf().packed(), 0, 4)
	want := api.Slots{Seg: 4, Words: []uint64{0b100101}, Keys: []int64{5, 0, 6, 0, 0, 8, 0, 0}, Vals: []int64{50, 0, 60, 0, 0, 80, 0, 0}, Counts: []int{2, 1}, Laid: 5}
	if e != api.OK || !alike(s, want) {
		t.Errorf("Even = %v, %d", s, int(e))
	}
	s, e = With(exampleOf().packed(), 0, 4, 0, api.Pair{Key: 9, Val: 90})
	want = api.Slots{Seg: 4, Words: []uint64{0b100111}, Keys: []int64{9, 5, 6, 0, 0, 8, 0, 0}, Vals: []int64{90, 50, 60, 0, 0, 80, 0, 0}, Counts: []int{3, 1}, Laid: 6}
	if e != api.OK || !alike(s, want) {
		t.Errorf("With = %v, %d", s, int(e))
	}
	l := []api.Pair{{Key: 5, Val: 50}, {Key: 6, Val: 60}, {Key: 8, Val: 80}}
	s, e = Into(exampleOf().packed(), 16, l)
	want = api.Slots{Seg: 4, Words: []uint64{1 | 1<<5 | 1<<10}, Keys: make([]int64, 16), Vals: make([]int64, 16), Counts: []int{1, 1, 1, 0}, Laid: 6}
	want.Keys[0], want.Keys[5], want.Keys[10] = 5, 6, 8
	want.Vals[0], want.Vals[5], want.Vals[10] = 50, 60, 80
	if e != api.OK || !alike(s, want) {
		t.Errorf("Into = %v, %d", s, int(e))
	}
}

// P8.1: each part of small arrays, and parts around the ends of segments and words of greater ones.
func TestEven(t *testing.T) {
	everyArray(t, func(p plain, s api.Slots) {
		for _, part := range parts(len(p.cells)) {
			from, to := part[0], part[1]
			got, e := Even(s, from, to)
			wantSlots(t, got, e, p.spread(from, to, p.pairs(from, to)), "Even", from, to, s)
		}
	})
}

// P8.1: the new pair at each place, by turns each one that may come; a full part refuses it.
func TestWith(t *testing.T) {
	everyArray(t, func(p plain, s api.Slots) {
		for _, part := range parts(len(p.cells)) {
			from, to := part[0], part[1]
			l := p.pairs(from, to)
			all := comers(l)
			for _, k := range someNumbers(len(l)) {
				x := all[(k+from+to)%len(all)]
				got, e := With(s, from, to, k, x)
				if len(l) == to-from {
					wantRefused(t, got, e, api.ErrFull, "With", from, to, k, x, s)
				} else {
					wantSlots(t, got, e, p.spread(from, to, put(l, k, x)), "With", from, to, k, x, s)
				}
			}
		}
	})
}

// P8.1: each pair that may come, at each place, in order or not: zeros, the least and the greatest numbers, keys that are there.
func TestWithAnyPair(t *testing.T) {
	for _, p := range append(patterns(4, 8), patterns(4, 64)...) {
		s, n := p.packed(), len(p.cells)
		for _, part := range [][2]int{{0, n}, {0, 4}, {n - 4, n}, {3, 8}, {1, n - 1}} {
			from, to := part[0], part[1]
			l := p.pairs(from, to)
			if len(l) == to-from {
				continue
			}
			for _, x := range comers(l) {
				for k := range len(l) + 1 {
					got, e := With(s, from, to, k, x)
					wantSlots(t, got, e, p.spread(from, to, put(l, k, x)), "With", from, to, k, x, s)
				}
			}
		}
	}
}

// P8.1: a pair of zeros is one, and occupies its slot.
func TestWithZeros(t *testing.T) {
	s, e := With(sized(4, 4), 2, 4, 0, api.Pair{})
	if e != api.OK || s.Words[0] != 4 || s.Counts[0] != 1 || s.Laid != 1 {
		t.Errorf("With of zeros: %v, %d", s, int(e))
	}
	s, e = With(s, 2, 4, 1, api.Pair{})
	if e != api.OK || s.Words[0] != 12 || s.Counts[0] != 2 || s.Laid != 3 {
		t.Errorf("With of zeros again: %v, %d", s, int(e))
	}
}

// P8.1: parts without pairs, of one slot, with room for one pair, and full.
func TestRoomOfParts(t *testing.T) {
	x := api.Pair{Key: 4, Val: 40}
	p := plain{4, make([]*api.Pair, 8), 0}
	for at := range 8 {
		got, e := Even(p.packed(), at, at+1)
		wantSlots(t, got, e, p, "Even of a gap", at)
		got, e = With(p.packed(), at, at+1, 0, x)
		want := p.spread(at, at+1, []api.Pair{x})
		wantSlots(t, got, e, want, "With into a gap", at)
		got, e = Even(got, at, at+1)
		wantSlots(t, got, e, want.spread(at, at+1, []api.Pair{x}), "Even of a slot", at)
		for k := range 2 {
			got, e = With(want.packed(), at, at+1, k, x)
			wantRefused(t, got, e, api.ErrFull, "With into a full slot", at, k)
		}
	}
	s, e := p.packed(), api.OK
	for i := range 8 {
		l := p.pairs(0, 8)
		x.Key--
		s, e = With(s, 0, 8, i/2, x)
		p = p.spread(0, 8, put(l, i/2, x))
		wantSlots(t, s, e, p, "With, step by step", i)
	}
	if s.Laid != 36 || s.Words[0] != 255 {
		t.Errorf("behind eight steps: %v", s)
	}
	got, e := With(s, 0, 8, 4, x)
	wantRefused(t, got, e, api.ErrFull, "With into a full array")
}

// P8.1: a part without slots is spread, and nothing comes of it; it is full.
func TestPartsWithoutSlots(t *testing.T) {
	everyArray(t, func(p plain, s api.Slots) {
		for at := range len(p.cells) + 1 {
			got, e := Even(s, at, at)
			wantSlots(t, got, e, p, "Even", at, at, s)
			for _, k := range append(badNumbers(0), 0) {
				got, e = With(s, at, at, k, api.Pair{Key: 1, Val: 2})
				wantRefused(t, got, e, api.ErrFull, "With", at, at, k, s)
			}
		}
	})
}

// P8.1: ends that are no part's, whatever k is, and though the array is full.
func TestPartRefused(t *testing.T) {
	everyArray(t, func(p plain, s api.Slots) {
		n := len(p.cells)
		for _, part := range badParts(n) {
			got, e := Even(s, part[0], part[1])
			wantRefused(t, got, e, api.ErrArg, "Even", part, s)
			for _, k := range []int{0, 1, n, -1, least, greatest} {
				got, e = With(s, part[0], part[1], k, api.Pair{Key: 1, Val: 2})
				wantRefused(t, got, e, api.ErrArg, "With", part, k, s)
			}
		}
	})
}

// P8.1: a full part is told ahead of a number that is none; in a part that has room the number is told, though the array has as many pairs.
func TestNumberRefused(t *testing.T) {
	everyArray(t, func(p plain, s api.Slots) {
		for _, part := range parts(len(p.cells)) {
			from, to := part[0], part[1]
			n := len(p.pairs(from, to))
			want := api.ErrArg
			if n == to-from {
				want = api.ErrFull
			}
			for _, k := range badNumbers(n) {
				got, e := With(s, from, to, k, api.Pair{Key: 1, Val: 2})
				wantRefused(t, got, e, want, "With", from, to, k, s)
			}
		}
	})
}

// sizesOf are numbers of slots that an array of segments of seg may have: all but the greater ones.
func sizesOf(seg int) []int {
	var l []int
	for size := seg; size <= 512; size *= 2 {
		l = append(l, size)
	}
	return l
}

// P8.2: to less, as many, and more slots, with no pairs, few, nearly as many as slots, and as many, whatever stood in the array.
func TestInto(t *testing.T) {
	everyArray(t, func(p plain, s api.Slots) {
		for _, size := range sizesOf(p.seg) {
			empty := plain{p.seg, make([]*api.Pair, size), p.laid}
			for _, n := range someNumbers(size) {
				for _, l := range [][]api.Pair{mixedPairs(n, uint64(size)), risingPairs(n)} {
					got, e := Into(s, size, l)
					if e != api.OK || !alike(got, empty.spread(0, size, l).packed()) {
						t.Errorf("Into(%v, %d, %v) = %v, %d", s, size, l, got, int(e))
					}
				}
			}
		}
	})
}

// P8.2: each number of pairs over each small array, of each segment.
func TestIntoEachNumber(t *testing.T) {
	for seg := api.MinSeg; seg <= api.MaxSeg; seg *= 2 {
		for _, size := range []int{seg, 2 * seg, 4 * seg} {
			empty := plain{seg, make([]*api.Pair, size), 9}
			for n := range size + 1 {
				l := mixedPairs(n, uint64(n))
				got, e := Into(plain{seg, make([]*api.Pair, seg), 9}.packed(), size, l)
				wantSlots(t, got, e, empty.spread(0, size, l), "Into", size, l)
			}
		}
	}
}

// P8.2: no pairs leave an array without any, and the ledger as it was; none and a list without elements are the same.
func TestIntoOfNone(t *testing.T) {
	everyArray(t, func(p plain, s api.Slots) {
		for _, size := range sizesOf(p.seg) {
			for _, l := range [][]api.Pair{nil, {}} {
				got, e := Into(s, size, l)
				wantSlots(t, got, e, plain{p.seg, make([]*api.Pair, size), p.laid}, "Into", size, l)
			}
		}
	})
}

// P8.2: sizes that an array of that Seg may not have, whatever pairs come.
func TestSizeRefused(t *testing.T) {
	everyArray(t, func(p plain, s api.Slots) {
		for _, size := range badSizes(p.seg) {
			for _, n := range []int{0, 1, 4, p.seg, p.seg + 1, 2 * p.seg} {
				got, e := Into(s, size, risingPairs(n))
				wantRefused(t, got, e, api.ErrArg, "Into", size, n, s)
			}
		}
	})
}

// P8.2: a size that is too small for one Seg is right for another.
func TestSizeBySeg(t *testing.T) {
	for seg := api.MinSeg; seg <= api.MaxSeg; seg *= 2 {
		p := plain{seg, make([]*api.Pair, seg), 1}
		for size := 1; size <= 2*api.MaxSlots; size *= 2 {
			got, e := Into(p.packed(), size, []api.Pair{{Key: 1, Val: 2}})
			if size < seg || size > api.MaxSlots {
				wantRefused(t, got, e, api.ErrArg, "Into", seg, size)
				continue
			}
			want := plain{seg, make([]*api.Pair, size), 1}.spread(0, size, []api.Pair{{Key: 1, Val: 2}})
			if e != api.OK || !alike(got, want.packed()) {
				t.Errorf("Into of %d slots of segments of %d: %d", size, seg, int(e))
			}
		}
	}
}

// P8.2: more pairs than slots.
func TestTooManyRefused(t *testing.T) {
	everyArray(t, func(p plain, s api.Slots) {
		for _, size := range sizesOf(p.seg) {
			for _, n := range []int{size + 1, size + 2, 2 * size, 2*size + 1} {
				got, e := Into(s, size, risingPairs(n))
				wantRefused(t, got, e, api.ErrArg, "Into", size, n)
			}
		}
	})
}

// P8.1, P8.2: an array that may not be is told ahead of all else.
func TestBadFirst(t *testing.T) {
	for _, bad := range badArrays() {
		n := len(bad.s.Keys)
		was := copied(bad.s)
		for _, part := range [][2]int{{0, n}, {0, 4}, {0, 0}, {4, 8}, {n, n}, {3, 2}, {-1, n}, {0, n + 1}, {least, greatest}, {greatest, least}} {
			got, e := Even(bad.s, part[0], part[1])
			wantRefused(t, got, e, api.ErrBad, "Even", bad.why, part, n)
			for _, k := range []int{0, 1, n, -1, least, greatest} {
				got, e = With(bad.s, part[0], part[1], k, api.Pair{Key: 1, Val: 2})
				wantRefused(t, got, e, api.ErrBad, "With", bad.why, part, k, n)
			}
		}
		for _, size := range []int{4, 8, 64, 128, api.MaxSlots, n, bad.s.Seg, 0, 3, -1, least, greatest} {
			for _, count := range []int{0, 1, 4, 200} {
				got, e := Into(bad.s, size, risingPairs(count))
				wantRefused(t, got, e, api.ErrBad, "Into", bad.why, size, count, n)
			}
		}
		if !alike(bad.s, was) {
			t.Errorf("%s was turned", bad.why)
		}
	}
}

// P8.1, P8.2: a ledger that is near its greatest number goes on from 0.
func TestLedgerRunsOver(t *testing.T) {
	for ahead := range uint64(8) {
		p := exampleOf()
		p.laid = allBits - ahead
		for _, step := range []struct {
			laid uint64
			call func() (api.Slots, api.Errno)
		}{
			{3, func() (api.Slots, api.Errno) { return Even(p.packed(), 0, 8) }},
			{4, func() (api.Slots, api.Errno) { return With(p.packed(), 0, 8, 1, api.Pair{Key: 9}) }},
			{5, func() (api.Slots, api.Errno) { return Into(p.packed(), 16, risingPairs(5)) }},
			{0, func() (api.Slots, api.Errno) { return Even(p.packed(), 6, 8) }},
			{1, func() (api.Slots, api.Errno) { return With(p.packed(), 6, 8, 0, api.Pair{Key: 9}) }},
			{0, func() (api.Slots, api.Errno) { return Into(p.packed(), 4, nil) }},
		} {
			s, e := step.call()
			want := step.laid - ahead - 1
			if e != api.OK || s.Laid != want {
				t.Errorf("%d laid upon %d: %d, %d", step.laid, p.laid, s.Laid, int(e))
			}
		}
	}
}

// named are numbers at all edges, for arrays of 8 slots.
func named() []int {
	return []int{least, least + 1, -8, -1, 0, 1, 2, 4, 7, 8, 9, 16, api.MaxSlots, api.MaxSlots + 1, 1 << 32, greatest - 1, greatest}
}

// P1, P2: each named number in each place, with each in the others.
func TestNamedNumbers(t *testing.T) {
	p := exampleOf()
	s, x := p.packed(), api.Pair{Key: least, Val: greatest}
	for _, from := range named() {
		for _, to := range named() {
			got, e := Even(s, from, to)
			if from < 0 || from > to || to > 8 {
				wantRefused(t, got, e, api.ErrArg, "Even", from, to)
			} else {
				wantSlots(t, got, e, p.spread(from, to, p.pairs(from, to)), "Even", from, to)
			}
			for _, k := range named() {
				got, e = With(s, from, to, k, x)
				wantNamedWith(t, got, e, from, to, k, x)
			}
		}
		got, e := Into(s, from, []api.Pair{x})
		if slices.Contains([]int{4, 8, 16, api.MaxSlots}, from) {
			wantSlots(t, got, e, plain{4, make([]*api.Pair, from), p.laid}.spread(0, from, []api.Pair{x}), "Into", from)
		} else {
			wantRefused(t, got, e, api.ErrArg, "Into", from)
		}
	}
}

// wantNamedWith asks what With answered of exampleOf.
func wantNamedWith(t *testing.T, got api.Slots, e api.Errno, from, to, k int, x api.Pair) {
	t.Helper()
	if from < 0 || from > to || to > 8 {
		wantRefused(t, got, e, api.ErrArg, "With", from, to, k)
		return
	}
	l := exampleOf().pairs(from, to)
	switch {
	case len(l) == to-from:
		wantRefused(t, got, e, api.ErrFull, "With", from, to, k)
	case k < 0 || k > len(l):
		wantRefused(t, got, e, api.ErrArg, "With", from, to, k)
	default:
		wantSlots(t, got, e, exampleOf().spread(from, to, put(l, k, x)), "With", from, to, k)
	}
}

// P8.1, P8.2 at as many slots as there may be.
func TestMostSlots(t *testing.T) {
	n := api.MaxSlots
	for _, seg := range []int{4, 64} {
		for i, p := range patterns(seg, n) {
			s := p.packed()
			for _, part := range [][2]int{{0, n}, {n / 2, n}, {1, n - 1}} {
				from, to := part[0], part[1]
				l := p.pairs(from, to)
				got, e := Even(s, from, to)
				if e != api.OK || !alike(got, p.spread(from, to, l).packed()) {
					t.Errorf("Even of %v of array %d of segments of %d: %d", part, i, seg, int(e))
				}
				k, x := len(l)/2, api.Pair{Key: greatest, Val: least}
				got, e = With(s, from, to, k, x)
				if len(l) == to-from {
					wantRefused(t, got, e, api.ErrFull, "With", part, i, seg)
				} else if e != api.OK || !alike(got, p.spread(from, to, put(l, k, x)).packed()) {
					t.Errorf("With of %v of array %d of segments of %d: %d", part, i, seg, int(e))
				}
			}
			l := p.pairs(0, n)
			got, e := Into(s, n, l)
			if e != api.OK || !alike(got, p.spread(0, n, l).packed()) {
				t.Errorf("Into of array %d of segments of %d: %d", i, seg, int(e))
			}
			got, e = Into(s, n, make([]api.Pair, n+1))
			wantRefused(t, got, e, api.ErrArg, "Into", "one pair too many", i, seg)
		}
	}
}

// answers calls everything with s, and answers what comes of it.
func answers(s api.Slots, from, to, k, size int, l []api.Pair) []api.Slots {
	even, _ := Even(s, from, to)
	still, _ := Even(s, from, from)
	with, _ := With(s, from, to, k, api.Pair{Key: 1, Val: 2})
	into, _ := Into(s, size, l)
	same, _ := Into(s, len(s.Keys), l)
	none, _ := Into(s, size, nil)
	return []api.Slots{even, still, with, into, same, none}
}

// P8.3: what is handed in is only read, refused or not, and so is the room behind it.
func TestOnlyRead(t *testing.T) {
	for _, p := range append(patterns(4, 16), patterns(64, 128)...) {
		n := len(p.cells)
		for _, one := range append(spoilt(p), spoiltOne{"", p.packed()}) {
			handed, l := roomy(one.s), mixedPairs(n/2, 7)
			before, lBefore := copied(whole(handed)), slices.Clone(l[:cap(l)])
			for i, part := range append(badParts(n), [2]int{0, n}, [2]int{0, 4}, [2]int{n / 2, n - 1}, [2]int{n - 1, n}, [2]int{n, n}) {
				answers(handed, part[0], part[1], i%3-1, (n<<(i%4))/2+i%5/4, l)
				if !alike(whole(handed), before) || !slices.Equal(l[:cap(l)], lBefore) {
					t.Fatalf("what was handed in was turned, part %v of an array with %q", part, one.why)
				}
			}
		}
	}
}

// P8.3: turning what was answered turns neither what was handed in nor another answer; turning what was handed in turns no answer.
func TestNewMemory(t *testing.T) {
	for _, p := range append(patterns(4, 16), patterns(64, 128)...) {
		n := len(p.cells)
		for _, part := range [][2]int{{0, n}, {0, 4}, {3, n - 1}, {n, n}} {
			for _, size := range []int{n / 2, n, 2 * n} {
				s, l := roomy(p.packed()), mixedPairs(5, 8)
				lWant := slices.Clone(l)
				want := answers(p.packed(), part[0], part[1], 0, size, lWant)
				first := answers(s, part[0], part[1], 0, size, l)
				second := answers(s, part[0], part[1], 0, size, l)
				for i := range first {
					turnAll(first[i])
					if !alike(s, p.packed()) || !slices.Equal(l, lWant) {
						t.Fatalf("answer %d of %v is what was handed in", i, part)
					}
					for j := i + 1; j < len(first); j++ {
						if !alike(first[j], want[j]) {
							t.Fatalf("answers %d and %d of %v share memory", i, j, part)
						}
					}
				}
				turnAll(s)
				clear(l[:cap(l)])
				for i := range second {
					if !alike(second[i], want[i]) {
						t.Fatalf("answer %d of %v is what was handed in", i, part)
					}
				}
			}
		}
	}
}

// P8.3: the lists of one answer share nothing.
func TestListsShareNothing(t *testing.T) {
	for i, s := range answers(sized(4, 8), 0, 8, 0, 16, risingPairs(8)) {
		vals, counts := slices.Clone(s.Vals), slices.Clone(s.Counts)
		words := slices.Clone(s.Words)
		turnEach(s.Keys, -1)
		if !slices.Equal(s.Vals, vals) || !slices.Equal(s.Words, words) || !slices.Equal(s.Counts, counts) {
			t.Errorf("lists of answer %d share memory", i)
		}
	}
}

// mustPairs are the pairs of a part, which are asked of slots.
func mustPairs(t *testing.T, s api.Slots, from, to int) []api.Pair {
	t.Helper()
	l, e := slots.Pairs(s, from, to)
	if e != api.OK {
		t.Fatalf("Pairs(%v, %d, %d): %d", s, from, to, int(e))
	}
	return l
}

// wantSpread asks that l alone stand in the part, that the ledger told them, and that each of equal parts has its share.
func wantSpread(t *testing.T, s api.Slots, from, to int, l []api.Pair, laid uint64) {
	t.Helper()
	if e := slots.Check(s); e != api.OK {
		t.Fatalf("what was answered may not be: %v", s)
	}
	if got := mustPairs(t, s, from, to); !slices.Equal(got, l) || s.Laid != laid+uint64(len(l)) {
		t.Fatalf("of %v upon %d there are %v, %d", l, laid, got, s.Laid)
	}
	for _, many := range []int{1, 2, 3, 4, 5, 8, 16, to - from} {
		if many == 0 || (to-from)%many != 0 {
			continue
		}
		width := (to - from) / many
		for k := range many {
			share, e := spread.Share(len(l), from, to, many, k)
			got := len(mustPairs(t, s, from+k*width, from+(k+1)*width))
			if e != api.OK || got != share {
				t.Fatalf("part %d of %d of %d to %d has %d pairs; its share is %d, %d", k, many, from, to, got, share, int(e))
			}
		}
	}
}

// wantOutside asks that nothing outside the part was turned.
func wantOutside(t *testing.T, s, was api.Slots, from, to int) {
	t.Helper()
	for at := range was.Keys {
		if from <= at && at < to {
			continue
		}
		p, e := slots.At(s, at)
		q, f := slots.At(was, at)
		if p != q || e != f {
			t.Fatalf("slot %d outside %d to %d was turned: %v, %d", at, from, to, p, int(e))
		}
	}
	if len(s.Keys) != len(was.Keys) || s.Seg != was.Seg {
		t.Fatalf("there are %d slots in segments of %d", len(s.Keys), s.Seg)
	}
}

// P8.4: no pair is lost, none doubled, order stays, nothing outside is turned, the ledger tells the part's pairs, and equal parts have their shares.
func TestNothingLost(t *testing.T) {
	everyArray(t, func(p plain, s api.Slots) {
		for _, part := range parts(len(p.cells)) {
			from, to := part[0], part[1]
			l := mustPairs(t, s, from, to)
			even, e := Even(s, from, to)
			if e != api.OK {
				t.Fatalf("Even(%v, %d, %d): %d", s, from, to, int(e))
			}
			wantSpread(t, even, from, to, l, s.Laid)
			wantOutside(t, even, s, from, to)
			if len(l) == to-from {
				continue
			}
			k, x := (from+to)%(len(l)+1), api.Pair{Key: int64(from), Val: int64(to)}
			with, e := With(s, from, to, k, x)
			if e != api.OK {
				t.Fatalf("With(%v, %d, %d, %d): %d", s, from, to, k, int(e))
			}
			wantSpread(t, with, from, to, slices.Insert(l, k, x), s.Laid)
			wantOutside(t, with, s, from, to)
		}
	})
}

// P8.4: the same of all slots of another size.
func TestNothingLostInto(t *testing.T) {
	everyArray(t, func(p plain, s api.Slots) {
		for _, size := range sizesOf(p.seg) {
			for _, n := range []int{0, 1, 3, size / 3, size - 1, size} {
				l := mixedPairs(n, uint64(n))
				into, e := Into(s, size, l)
				if e != api.OK || len(into.Keys) != size || into.Seg != s.Seg {
					t.Fatalf("Into(%v, %d) of %d pairs: %d", s, size, n, int(e))
				}
				wantSpread(t, into, 0, size, l, s.Laid)
			}
		}
	})
}

// P8.4: over many steps, whatever step comes behind whatever other one.
func TestManySteps(t *testing.T) {
	for _, shape := range shapes() {
		seg, size := shape[0], shape[1]
		next := mixer(uint64(seg + size))
		p := plain{seg, make([]*api.Pair, size), allBits - 50}
		s, e := p.packed(), api.OK
		for i := range 300 {
			n := len(p.cells)
			from, to := next(n+1), next(n+1)
			from, to = min(from, to), max(from, to)
			l := p.pairs(from, to)
			switch room := to - from - len(l); {
			case i%40 == 39:
				size = seg << next(4)
				l = p.pairs(0, n)
				l = l[:min(len(l), size)]
				s, e = Into(s, size, l)
				p = plain{seg, make([]*api.Pair, size), p.laid}.spread(0, size, l)
			case room > 0 && next(3) > 0:
				k, x := next(len(l)+1), mixedPair(i, next)
				s, e = With(s, from, to, k, x)
				p = p.spread(from, to, put(l, k, x))
			default:
				s, e = Even(s, from, to)
				p = p.spread(from, to, l)
			}
			wantSlots(t, s, e, p, "a step", i, from, to)
		}
	}
}
