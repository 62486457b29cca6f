package slots

import (
	"math"
	"slices"
	"testing"

	"shelfmark/api"
)

const (
	least    = math.MinInt64
	greatest = math.MaxInt64
	allBits  = ^uint64(0)
)

// cell is a slot told without words: whether it is occupied, and by what.
type cell struct {
	is bool
	p  api.Pair
}

// plain is a gapped array told slot by slot.
type plain struct {
	seg   int
	cells []cell
	laid  uint64
}

// packed packs p by the definition alone.
func (p plain) packed() api.Slots {
	n := len(p.cells)
	s := api.Slots{
		Seg:    p.seg,
		Words:  make([]uint64, n/64+min(n%64, 1)),
		Keys:   make([]int64, n),
		Vals:   make([]int64, n),
		Counts: make([]int, n/p.seg),
		Laid:   p.laid,
	}
	for at, c := range p.cells {
		if c.is {
			s.Words[at/64] |= 1 << uint(at%64)
			s.Keys[at], s.Vals[at] = c.p.Key, c.p.Val
			s.Counts[at/p.seg]++
		}
	}
	return s
}

func (p plain) twin() plain {
	p.cells = slices.Clone(p.cells)
	return p
}

// lay is p behind a pair was laid into a slot of it.
func (p plain) lay(at int, x api.Pair) plain {
	p = p.twin()
	p.cells[at] = cell{true, x}
	p.laid++
	return p
}

// cleared is p behind the slots from on, ahead of to, were cleared.
func (p plain) cleared(from, to int) plain {
	p = p.twin()
	for at := from; at < to; at++ {
		p.cells[at] = cell{}
	}
	return p
}

func (p plain) pairs(from, to int) []api.Pair {
	var l []api.Pair
	for _, c := range p.cells[from:to] {
		if c.is {
			l = append(l, c.p)
		}
	}
	return l
}

func mixer(seed uint64) func(below int) int {
	return func(below int) int {
		seed = seed*6364136223846793005 + 1442695040888963407
		return int(seed>>33) % below
	}
}

// numbers are keys and values: 0, the least and the greatest among them.
func numbers() []int64 {
	return []int64{0, 1, -1, 7, -7, 1 << 40, least, least + 1, greatest, greatest - 1}
}

func mixedPair(next func(int) int) api.Pair {
	l := numbers()
	return api.Pair{Key: l[next(len(l))], Val: l[next(len(l))]}
}

func mixedPairs(n int, seed uint64) []api.Pair {
	next := mixer(seed)
	l := make([]api.Pair, n)
	for i := range l {
		l[i] = mixedPair(next)
	}
	return l
}

// shapes are segments and numbers of slots, around the ends of words.
func shapes() [][2]int {
	return [][2]int{{4, 4}, {4, 8}, {4, 16}, {4, 64}, {4, 128}, {8, 8}, {8, 32}, {16, 16}, {16, 128}, {32, 32}, {32, 64}, {64, 64}, {64, 128}, {64, 256}}
}

// patterns are arrays of a shape: without pairs, full, with the first slot and the last one, some of a segment, and mixed ones.
func patterns(seg, many int) []plain {
	next := mixer(uint64(seg*many) + 1)
	rules := []func(at int) bool{
		func(int) bool { return false },
		func(int) bool { return true },
		func(at int) bool { return at == 0 || at == many-1 },
		func(at int) bool { return at%seg == seg-1 },
		func(at int) bool { return at/seg == 1 },
		func(at int) bool { return next(2) == 0 },
		func(at int) bool { return next(8) == 0 },
	}
	laids := []uint64{0, 1, 5, allBits, allBits - 1, 1 << 63, 1<<63 - 1}
	var l []plain
	for i, rule := range rules {
		p := plain{seg, make([]cell, many), laids[i]}
		for at := range p.cells {
			if rule(at) {
				p.cells[at] = cell{true, mixedPair(next)}
			}
		}
		l = append(l, p)
	}
	return l
}

// alike tells whether all of a and b is the same, beside Same, which is tested.
func alike(a, b api.Slots) bool {
	return a.Seg == b.Seg && a.Laid == b.Laid && slices.Equal(a.Words, b.Words) && slices.Equal(a.Keys, b.Keys) &&
		slices.Equal(a.Vals, b.Vals) && slices.Equal(a.Counts, b.Counts)
}

// everyArray hands on each pattern of each shape, and asks behind it that the array is what it was.
func everyArray(t *testing.T, do func(p plain, s api.Slots)) {
	t.Helper()
	for _, shape := range shapes() {
		for i, p := range patterns(shape[0], shape[1]) {
			s := p.packed()
			do(p, s)
			if !alike(s, p.packed()) {
				t.Fatalf("array %d of %v was turned", i, shape)
			}
		}
	}
}

// some are slots of n, and n: the ends of all, and of segments and words.
func some(n int) []int {
	var l []int
	for _, at := range []int{0, 1, 3, 4, 5, 7, 8, n/2 - 1, n / 2, 63, 64, 65, 127, 128, n - 2, n - 1, n} {
		if at <= n && !slices.Contains(l, at) {
			l = append(l, at)
		}
	}
	slices.Sort(l)
	return l
}

// outside are places that are neither slots of n nor n.
func outside(n int) []int {
	return []int{-1, -4, -64, least, least + 1, n + 1, n + 4, n + 64, api.MaxSlots + 1, 1 << 32, greatest - 1, greatest}
}

func wantErr(t *testing.T, e, want api.Errno, what string, args ...any) {
	t.Helper()
	if e != want {
		t.Errorf("%s%v: error %d; want %d", what, args, int(e), int(want))
	}
}

func wantSlots(t *testing.T, s api.Slots, e api.Errno, want plain, what string, args ...any) {
	t.Helper()
	if e != api.OK || !alike(s, want.packed()) {
		t.Errorf("%s%v = %v, %d; want %v", what, args, s, int(e), want.packed())
	}
}

// wantRefused asks for the error, and for nothing beside it.
func wantRefused(t *testing.T, s api.Slots, e, want api.Errno, what string, args ...any) {
	t.Helper()
	if e != want || !alike(s, api.Slots{}) {
		t.Errorf("%s%v = %v, %d; want nothing, %d", what, args, s, int(e), int(want))
	}
}

func wantPair(t *testing.T, p api.Pair, e api.Errno, want api.Pair, wantE api.Errno, what string, args ...any) {
	t.Helper()
	if p != want || e != wantE {
		t.Errorf("%s%v = %v, %d; want %v, %d", what, args, p, int(e), want, int(wantE))
	}
}

func wantPairs(t *testing.T, l []api.Pair, e api.Errno, want []api.Pair, wantE api.Errno, what string, args ...any) {
	t.Helper()
	if !slices.Equal(l, want) || e != wantE {
		t.Errorf("%s%v = %v, %d; want %v, %d", what, args, l, int(e), want, int(wantE))
	}
}

func TestExamples(t *testing.T) {
	s, e := New(4, 8)
	if e != api.OK || len(s.Keys) != 8 || !slices.Equal(s.Counts, []int{0, 0}) {
		t.Errorf("New of 4, 8 = %v, %d", s, int(e))
	}
	s, e = Lay(s, 3, api.Pair{Key: 5, Val: 7})
	if e != api.OK || !slices.Equal(s.Counts, []int{1, 0}) || s.Laid != 1 {
		t.Errorf("Lay of 5, 7 = %v, %d", s, int(e))
	}
	p, e := At(s, 3)
	wantPair(t, p, e, api.Pair{Key: 5, Val: 7}, api.OK, "At", 3)
	s, e = New(4, 12)
	wantRefused(t, s, e, api.ErrArg, "New", 4, 12)
}

// P4.1: what may be a gapped array.
func TestCheckTakes(t *testing.T) {
	everyArray(t, func(p plain, s api.Slots) {
		wantErr(t, Check(s), api.OK, "Check", s)
	})
	for _, shape := range [][2]int{{4, api.MaxSlots}, {8, api.MaxSlots / 2}, {64, api.MaxSlots}} {
		for i, p := range patterns(shape[0], shape[1]) {
			wantErr(t, Check(p.packed()), api.OK, "Check", shape, i)
		}
	}
	for _, laid := range []uint64{0, 1, 1 << 32, 1 << 63, allBits} {
		s := plain{4, make([]cell, 8), laid}.packed()
		wantErr(t, Check(s), api.OK, "Check", s)
	}
}

// sized is an array of so many slots without pairs, whatever sizes these are.
func sized(seg, many, words, counts int) api.Slots {
	return api.Slots{Seg: seg, Words: make([]uint64, words), Keys: make([]int64, many), Vals: make([]int64, many), Counts: make([]int, counts)}
}

// P4.1: segments that are no power from MinSeg to MaxSeg.
func TestCheckRefusesSegments(t *testing.T) {
	for _, seg := range []int{0, 1, 2, 3, 5, 6, 7, 9, 12, 24, 48, 63, 65, 96, 128, 256, 1 << 16, 1 << 32, 1 << 62, -1, -4, -8, -64, least, least + 1, greatest} {
		for _, k := range []int{1, 2, 4} {
			many := 64 * k
			if seg > 0 && seg <= 1024 {
				many = seg * k
			}
			for _, counts := range []int{0, 1, k, many / 4} {
				wantErr(t, Check(sized(seg, many, (many+63)/64, counts)), api.ErrBad, "Check", seg, many, counts)
			}
		}
		s := sized(seg, 0, 0, 0)
		wantErr(t, Check(s), api.ErrBad, "Check", s)
	}
}

// P4.1: numbers of slots that are no power of segments, none, and more than MaxSlots.
func TestCheckRefusesSizes(t *testing.T) {
	for _, seg := range []int{4, 8, 16, 32, 64} {
		for _, many := range []int{0, 1, seg / 2, seg - 1, seg + 1, seg * 3, seg*4 - 1, seg*4 + 1, seg * 5, seg * 6, seg * 7, seg * 12, api.MaxSlots - seg, api.MaxSlots + seg, api.MaxSlots * 2} {
			for _, counts := range []int{many / seg, (many + seg - 1) / seg} {
				wantErr(t, Check(sized(seg, many, (many+63)/64, counts)), api.ErrBad, "Check", seg, many, counts)
			}
		}
	}
	wantErr(t, Check(api.Slots{}), api.ErrBad, "Check", "nothing")
	wantErr(t, Check(api.Slots{Seg: 4, Words: []uint64{}, Keys: []int64{}, Vals: []int64{}, Counts: []int{}}), api.ErrBad, "Check", "lists without elements")
}

// fewer, more are l with one thing less, or one 0 more, behind it.
func fewer[T any](l []T) []T { return l[:len(l)-1] }

func more[T any](l []T) []T {
	var zero T
	return append(slices.Clone(l), zero)
}

// spoilt are arrays that may not be, each by one thing alone.
func spoilt(p plain) []api.Slots {
	var l []api.Slots
	spoil := func(turn func(s *api.Slots)) {
		s := p.packed()
		turn(&s)
		l = append(l, s)
	}
	spoil(func(s *api.Slots) { s.Words = fewer(s.Words) })
	spoil(func(s *api.Slots) { s.Words = more(s.Words) })
	spoil(func(s *api.Slots) { s.Words = nil })
	spoil(func(s *api.Slots) { s.Keys = fewer(s.Keys) })
	spoil(func(s *api.Slots) { s.Keys = more(s.Keys) })
	spoil(func(s *api.Slots) { s.Keys = nil })
	spoil(func(s *api.Slots) { s.Vals = fewer(s.Vals) })
	spoil(func(s *api.Slots) { s.Vals = more(s.Vals) })
	spoil(func(s *api.Slots) { s.Vals = nil })
	spoil(func(s *api.Slots) { s.Counts = fewer(s.Counts) })
	spoil(func(s *api.Slots) { s.Counts = more(s.Counts) })
	spoil(func(s *api.Slots) { s.Counts = nil })
	spoil(func(s *api.Slots) { s.Keys, s.Vals = s.Keys[:len(s.Keys)/2], s.Vals[:len(s.Vals)/2] })
	spoil(func(s *api.Slots) { s.Seg = 0 })
	spoil(func(s *api.Slots) { s.Seg = -s.Seg })
	spoil(func(s *api.Slots) { s.Seg++ })
	for i := range len(p.cells) / p.seg {
		for _, by := range []int{1, -1, p.seg, least, greatest} {
			spoil(func(s *api.Slots) { s.Counts[i] += by })
		}
	}
	for at, c := range p.cells {
		spoil(func(s *api.Slots) { s.Words[at/64] ^= 1 << uint(at%64) })
		if c.is {
			continue
		}
		spoil(func(s *api.Slots) { s.Keys[at] = 1 })
		spoil(func(s *api.Slots) { s.Vals[at] = -1 })
		spoil(func(s *api.Slots) { s.Keys[at] = least })
		spoil(func(s *api.Slots) { s.Vals[at] = greatest })
	}
	if n := len(p.cells); n < 64 {
		for _, at := range []int{n, n + 1, 63} {
			spoil(func(s *api.Slots) { s.Words[0] |= 1 << uint(at) })
		}
	}
	return l
}

// P4.1: lists that are one too short or too long, wrong counts, things in slots that are not occupied, bits beyond the slots.
func TestCheckRefusesSpoilt(t *testing.T) {
	everyArray(t, func(p plain, s api.Slots) {
		for _, bad := range spoilt(p) {
			wantErr(t, Check(bad), api.ErrBad, "Check", bad)
		}
	})
}

// P4.1: counts that are wrong, though they add up.
func TestCheckRefusesSwappedCounts(t *testing.T) {
	p := plain{4, make([]cell, 8), 0}.lay(1, api.Pair{Key: 3, Val: 4})
	s := p.packed()
	s.Counts = []int{0, 1}
	wantErr(t, Check(s), api.ErrBad, "Check", s)
	s.Counts = []int{2, -1}
	wantErr(t, Check(s), api.ErrBad, "Check", s)
	s.Counts = []int{1, 0}
	wantErr(t, Check(s), api.OK, "Check", s)
}

// P4.1: each segment and each number of slots that may be.
func TestNew(t *testing.T) {
	for seg := api.MinSeg; seg <= api.MaxSeg; seg *= 2 {
		for many := seg; many <= api.MaxSlots; many *= 2 {
			s, e := New(seg, many)
			if e != api.OK || !alike(s, plain{seg, make([]cell, many), 0}.packed()) || Check(s) != api.OK {
				t.Errorf("New of %d, %d: %d", seg, many, int(e))
			}
		}
	}
}

func TestNewRefuses(t *testing.T) {
	for _, seg := range []int{0, 1, 2, 3, 5, 6, 7, 12, 63, 65, 128, 1 << 32, 1 << 62, -1, -4, -8, -64, least, least + 1, greatest} {
		for _, many := range []int{0, seg, 2 * seg, -seg, 4, 8, 64, 128, api.MaxSlots, -4, 1 << 62, least, greatest} {
			s, e := New(seg, many)
			wantRefused(t, s, e, api.ErrArg, "New", seg, many)
		}
	}
	for seg := api.MinSeg; seg <= api.MaxSeg; seg *= 2 {
		for _, many := range []int{0, 1, 2, seg / 2, seg - 1, seg + 1, seg * 3, seg * 5, seg * 6, seg * 7, seg*8 + 1, seg*8 - 1, -1, -seg, -2 * seg,
			api.MaxSlots - seg, api.MaxSlots - 1, api.MaxSlots + 1, api.MaxSlots + seg, api.MaxSlots * 2, 1 << 32, 1 << 62, least, least + 1, greatest} {
			s, e := New(seg, many)
			wantRefused(t, s, e, api.ErrArg, "New", seg, many)
		}
	}
}

// oddOnes are any ones: arrays that may be, and some that may not.
func oddOnes() []api.Slots {
	l := []api.Slots{{}, {Seg: -3}, {Seg: 4}, {Laid: 1}, {Laid: allBits}, {Words: []uint64{1, 2, 3}}, {Words: []uint64{1, 2}}, {Keys: []int64{5}}, {Keys: []int64{0}},
		{Vals: []int64{5}}, {Vals: []int64{0}}, {Vals: []int64{0, 0}}, {Counts: []int{-9, greatest}}, {Counts: []int{greatest, -9}}, {Counts: []int{0}},
		{Seg: greatest, Words: []uint64{allBits}, Keys: []int64{least, greatest}, Vals: []int64{7}, Counts: []int{1, 2, 3, 4}, Laid: 77}}
	for _, p := range patterns(4, 8) {
		l = append(l, p.packed())
	}
	return l
}

// P4.1: Same asks all of it, of any ones.
func TestSame(t *testing.T) {
	l := oddOnes()
	for i, a := range l {
		for j, b := range l {
			if Same(a, b) != alike(a, b) || Same(a, b) != (i == j) {
				t.Errorf("Same of %v and %v = %v", a, b, Same(a, b))
			}
		}
		none := api.Slots{Words: []uint64{}, Keys: []int64{}, Vals: []int64{}, Counts: []int{}}
		if Same(a, none) != (i == 0) || Same(none, a) != (i == 0) {
			t.Errorf("%v and one of lists without elements: %v", a, Same(a, none))
		}
	}
}

// P4.1: each thing that is turned alone is told.
func TestSameOfTurned(t *testing.T) {
	everyArray(t, func(p plain, s api.Slots) {
		if !Same(s, p.packed()) {
			t.Errorf("%v is not the same as itself", s)
		}
		other := p.packed()
		other.Laid++
		for _, bad := range append(spoilt(p), other) {
			if Same(s, bad) || Same(bad, s) {
				t.Errorf("%v is the same as %v", s, bad)
			}
		}
	})
}

// P4.1 and P4.5: all of it, in memory of its own, of any ones.
func TestTwin(t *testing.T) {
	for _, s := range oddOnes() {
		want := api.Slots{Seg: s.Seg, Words: append([]uint64{}, s.Words...), Keys: append([]int64{}, s.Keys...), Vals: append([]int64{}, s.Vals...), Counts: append([]int{}, s.Counts...), Laid: s.Laid}
		twin := Twin(s)
		if !alike(twin, want) {
			t.Errorf("Twin of %v = %v", want, twin)
		}
		turnAll(twin)
		if !alike(s, want) {
			t.Errorf("Twin of %v shares its memory", want)
		}
	}
}

// turnAll turns each thing of the lists, and those of the room behind them.
func turnAll(s api.Slots) {
	turnEach(s.Words, allBits)
	turnEach(s.Keys, -1)
	turnEach(s.Vals, -1)
	turnEach(s.Counts, -1)
}

func turnEach[T uint64 | int64 | int](l []T, by T) {
	l = l[:cap(l)]
	for i := range l {
		l[i] ^= by
	}
}

// P4.2: each slot of each array.
func TestAt(t *testing.T) {
	everyArray(t, func(p plain, s api.Slots) {
		for at, c := range p.cells {
			x, e := At(s, at)
			if c.is {
				wantPair(t, x, e, c.p, api.OK, "At", at, s)
			} else {
				wantPair(t, x, e, api.Pair{}, api.ErrNone, "At", at, s)
			}
		}
		for _, at := range append(outside(len(p.cells)), len(p.cells)) {
			x, e := At(s, at)
			wantPair(t, x, e, api.Pair{}, api.ErrArg, "At", at, s)
		}
	})
}

// P4.2: parts of each array, the empty ones and all among them.
func TestPairs(t *testing.T) {
	everyArray(t, func(p plain, s api.Slots) {
		for _, from := range some(len(p.cells)) {
			for _, to := range some(len(p.cells)) {
				l, e := Pairs(s, from, to)
				if from > to {
					wantPairs(t, l, e, nil, api.ErrArg, "Pairs", from, to, s)
				} else {
					wantPairs(t, l, e, p.pairs(from, to), api.OK, "Pairs", from, to, s)
				}
			}
		}
	})
}

// badParts are ends of parts of n slots that are outside, or turned round.
func badParts(n int) [][2]int {
	l := [][2]int{{-1, n + 1}, {1, 0}, {n, 0}, {n, n - 1}, {n / 2, n/2 - 1}, {greatest, least}}
	for _, out := range outside(n) {
		l = append(l, [2]int{out, out}, [2]int{out, 0}, [2]int{0, out}, [2]int{out, n}, [2]int{n, out}, [2]int{n / 2, out})
	}
	return l
}

func TestPairsRefuses(t *testing.T) {
	everyArray(t, func(p plain, s api.Slots) {
		for _, part := range badParts(len(p.cells)) {
			l, e := Pairs(s, part[0], part[1])
			wantPairs(t, l, e, nil, api.ErrArg, "Pairs", part, s)
		}
	})
}

// P4.3: into each slot, occupied or not, whatever pair.
func TestLay(t *testing.T) {
	everyArray(t, func(p plain, s api.Slots) {
		next := mixer(9)
		for at := range p.cells {
			x := mixedPair(next)
			got, e := Lay(s, at, x)
			wantSlots(t, got, e, p.lay(at, x), "Lay", at, x, s)
		}
		for _, at := range append(outside(len(p.cells)), len(p.cells)) {
			got, e := Lay(s, at, api.Pair{Key: 1, Val: 2})
			wantRefused(t, got, e, api.ErrArg, "Lay", at, s)
		}
	})
}

// P4.3: a pair of zeros is one, and occupies its slot.
func TestLayZeros(t *testing.T) {
	p := plain{4, make([]cell, 4), allBits}
	s, e := Lay(p.packed(), 3, api.Pair{})
	wantSlots(t, s, e, p.lay(3, api.Pair{}), "Lay", 3, "zeros")
	if s.Laid != 0 || s.Counts[0] != 1 || s.Words[0] != 8 {
		t.Errorf("behind Lay of zeros: %v", s)
	}
	x, e := At(s, 3)
	wantPair(t, x, e, api.Pair{}, api.OK, "At", 3)
	l, e := Pairs(s, 0, 4)
	wantPairs(t, l, e, []api.Pair{{}}, api.OK, "Pairs", 0, 4)
}

// P4.3: At's error of each slot, and Laid as it was.
func TestClear(t *testing.T) {
	everyArray(t, func(p plain, s api.Slots) {
		for at, c := range p.cells {
			got, e := Clear(s, at)
			if c.is {
				wantSlots(t, got, e, p.cleared(at, at+1), "Clear", at, s)
			} else {
				wantRefused(t, got, e, api.ErrNone, "Clear", at, s)
			}
		}
		for _, at := range append(outside(len(p.cells)), len(p.cells)) {
			got, e := Clear(s, at)
			wantRefused(t, got, e, api.ErrArg, "Clear", at, s)
		}
	})
}

// P4.3: from each end to each, itself among them; At's error of from ahead of what is wrong with to.
func TestMove(t *testing.T) {
	everyArray(t, func(p plain, s api.Slots) {
		n := len(p.cells)
		for _, from := range append(some(n), outside(n)...) {
			for _, to := range append(some(n), outside(n)...) {
				got, e := Move(s, from, to)
				switch {
				case from < 0 || from >= n:
					wantRefused(t, got, e, api.ErrArg, "Move", from, to, s)
				case !p.cells[from].is:
					wantRefused(t, got, e, api.ErrNone, "Move", from, to, s)
				case to < 0 || to >= n:
					wantRefused(t, got, e, api.ErrArg, "Move", from, to, s)
				case to != from && p.cells[to].is:
					wantRefused(t, got, e, api.ErrFull, "Move", from, to, s)
				default:
					wantSlots(t, got, e, p.cleared(from, from+1).lay(to, p.cells[from].p), "Move", from, to, s)
				}
			}
		}
	})
}

// places are slots for pairs within a part: none, the first ones, the last ones, each second one, all, and the ends.
func places(from, to int) [][]int {
	l := [][]int{nil, {}}
	if from == to {
		return l
	}
	var all, second []int
	for at := from; at < to; at++ {
		all = append(all, at)
		if (at-from)%2 == 0 {
			second = append(second, at)
		}
	}
	l = append(l, all, second, all[:1], all[len(all)-1:], all[:len(all)/2], all[len(all)/2:])
	if len(all) > 1 {
		l = append(l, []int{from, to - 1})
	}
	return l
}

// P4.4: parts that are empty, all, and between, with no pairs, a few, and as many as slots.
func TestFill(t *testing.T) {
	everyArray(t, func(p plain, s api.Slots) {
		for _, from := range some(len(p.cells)) {
			for _, to := range some(len(p.cells)) {
				if from > to {
					continue
				}
				for _, at := range places(from, to) {
					l := mixedPairs(len(at), uint64(from*to+7))
					want := p.cleared(from, to)
					for i, slot := range at {
						want = want.lay(slot, l[i])
					}
					got, e := Fill(s, from, to, at, l)
					wantSlots(t, got, e, want, "Fill", from, to, at, l, s)
				}
			}
		}
	})
}

// P4.4: ends of a part, ahead of all else.
func TestFillRefusesParts(t *testing.T) {
	everyArray(t, func(p plain, s api.Slots) {
		for _, part := range badParts(len(p.cells)) {
			for _, at := range [][]int{nil, {0}, {part[0]}, {part[1]}, {1, 0}} {
				got, e := Fill(s, part[0], part[1], at, mixedPairs(len(at), 1))
				wantRefused(t, got, e, api.ErrArg, "Fill", part, at, s)
			}
		}
	})
}

// P4.4: slots that don't rise, that are outside the part, and other numbers of pairs.
func TestFillRefuses(t *testing.T) {
	for _, shape := range shapes() {
		n := shape[1]
		for _, p := range patterns(shape[0], n) {
			s := p.packed()
			for _, at := range [][]int{{2, 2}, {2, 1}, {1, 2, 2}, {1, 1, 2}, {2, 1, 3}, {1, 3, 2}, {0}, {0, 1}, {3, 0}, {-1}, {-1, 1}, {1, -1}, {least}, {greatest}, {1, greatest}, {greatest, 1}, {least, 1}, {1, 2, n - 1, n}, {n - 1}, {n}, {1, n - 1}, {2, n}, {0, 1, 2, 3}} {
				got, e := Fill(s, 1, n-1, at, mixedPairs(len(at), 2))
				wantRefused(t, got, e, api.ErrArg, "Fill", 1, n-1, at, s)
			}
			for _, at := range [][]int{nil, {1}, {1, 2}} {
				for count := range 5 {
					if count == len(at) {
						continue
					}
					got, e := Fill(s, 0, n, at, mixedPairs(count, 3))
					wantRefused(t, got, e, api.ErrArg, "Fill", 0, n, at, count, s)
				}
			}
			for _, end := range some(n) {
				for _, at := range []int{0, end - 1, end, n - 1} {
					got, e := Fill(s, end, end, []int{at}, mixedPairs(1, 4))
					wantRefused(t, got, e, api.ErrArg, "Fill", end, end, at, s)
				}
			}
			got, e := Fill(s, 0, n, make([]int, n+1), make([]api.Pair, n+1))
			wantRefused(t, got, e, api.ErrArg, "Fill", "more than slots", s)
		}
	}
}

// P4.1 and P1: Check's error first, of every call, whatever else is wrong.
func TestCheckFirst(t *testing.T) {
	bad := []api.Slots{{}, {Seg: 4}, {Seg: -4, Keys: make([]int64, 4)}, sized(4, 12, 1, 3), sized(4, 2*api.MaxSlots, 2048, api.MaxSlots/2), sized(0, 4, 1, 1)}
	for _, p := range patterns(4, 8) {
		bad = append(bad, spoilt(p)...)
	}
	for _, s := range bad {
		for _, at := range []int{0, 1, 7, 8, -1, least, greatest} {
			x, e := At(s, at)
			wantPair(t, x, e, api.Pair{}, api.ErrBad, "At", at, s)
			got, e := Lay(s, at, api.Pair{Key: 1, Val: 1})
			wantRefused(t, got, e, api.ErrBad, "Lay", at, s)
			got, e = Clear(s, at)
			wantRefused(t, got, e, api.ErrBad, "Clear", at, s)
			for _, to := range []int{0, at, 3, 8, -1, greatest, least} {
				l, e := Pairs(s, at, to)
				wantPairs(t, l, e, nil, api.ErrBad, "Pairs", at, to, s)
				got, e = Move(s, at, to)
				wantRefused(t, got, e, api.ErrBad, "Move", at, to, s)
				for _, slots := range [][]int{nil, {1}, {2, 1}} {
					got, e = Fill(s, at, to, slots, mixedPairs(1, 5))
					wantRefused(t, got, e, api.ErrBad, "Fill", at, to, slots, s)
				}
			}
		}
	}
}

// P4.2 to P4.4 at as many slots as there may be.
func TestMostSlots(t *testing.T) {
	n := api.MaxSlots
	for _, seg := range []int{4, 64} {
		for i, p := range patterns(seg, n) {
			s := p.packed()
			for _, at := range []int{0, 1, 63, 64, n/2 - 1, n / 2, n - 65, n - 64, n - 1} {
				got, e := Lay(s, at, api.Pair{Key: greatest, Val: least})
				if want := p.lay(at, api.Pair{Key: greatest, Val: least}); e != api.OK || !alike(got, want.packed()) {
					t.Errorf("Lay at %d of array %d of %d: %d", at, i, n, int(e))
				}
				x, e := At(s, at)
				if c := p.cells[at]; x != c.p || (e == api.OK) != c.is {
					t.Errorf("At of %d of array %d of %d = %v, %d", at, i, n, x, int(e))
				}
			}
			l, e := Pairs(s, 0, n)
			if e != api.OK || !slices.Equal(l, p.pairs(0, n)) {
				t.Errorf("Pairs of array %d of %d: %d, %d", i, n, len(l), int(e))
			}
			at := places(0, n)[2]
			l = mixedPairs(n, 6)
			got, e := Fill(s, 0, n, at, l)
			want := plain{seg, make([]cell, n), p.laid + uint64(n)}
			for slot := range want.cells {
				want.cells[slot] = cell{true, l[slot]}
			}
			if e != api.OK || !alike(got, want.packed()) {
				t.Errorf("Fill of array %d of %d: %d", i, n, int(e))
			}
		}
	}
}

// roomy is s in lists with room behind them, into which a careless append would write.
func roomy(s api.Slots) api.Slots {
	s.Words = append(make([]uint64, 0, len(s.Words)+4), s.Words...)
	s.Keys = append(make([]int64, 0, len(s.Keys)+4), s.Keys...)
	s.Vals = append(make([]int64, 0, len(s.Vals)+4), s.Vals...)
	s.Counts = append(make([]int, 0, len(s.Counts)+4), s.Counts...)
	return s
}

// whole is s with the room behind its lists.
func whole(s api.Slots) api.Slots {
	s.Words, s.Keys = s.Words[:cap(s.Words)], s.Keys[:cap(s.Keys)]
	s.Vals, s.Counts = s.Vals[:cap(s.Vals)], s.Counts[:cap(s.Counts)]
	return s
}

// answers calls everything with s, and answers what comes of it.
func answers(s api.Slots, from, to int, at []int, l []api.Pair) ([]api.Slots, []api.Pair) {
	Check(s)
	At(s, from)
	Same(s, s)
	pairs, _ := Pairs(s, from, to)
	lain, _ := Lay(s, from, api.Pair{Key: 1, Val: 2})
	cleared, _ := Clear(s, from)
	moved, _ := Move(s, from, to)
	still, _ := Move(s, from, from)
	filled, _ := Fill(s, from, to, at, l)
	empty, _ := Fill(s, from, from, nil, nil)
	return []api.Slots{lain, cleared, moved, still, filled, empty, Twin(s)}, pairs
}

// P4.5: what is handed in is only read, refused or not, and so is the room behind it.
func TestOnlyRead(t *testing.T) {
	for _, p := range append(patterns(4, 16), patterns(64, 128)...) {
		n := len(p.cells)
		for _, s := range append(spoilt(p)[:16], p.packed()) {
			handed := roomy(s)
			before := Twin(whole(handed))
			for _, part := range append(badParts(n), [2]int{0, n}, [2]int{0, 4}, [2]int{n / 2, n - 1}, [2]int{n - 1, n}, [2]int{n, n}) {
				for _, slots := range places(4, 8) {
					at := append(make([]int, 0, len(slots)+2), slots...)
					l := append(make([]api.Pair, 0, len(slots)+2), mixedPairs(len(slots), 7)...)
					atBefore, lBefore := slices.Clone(at[:cap(at)]), slices.Clone(l[:cap(l)])
					answers(handed, part[0], part[1], at, l)
					if !alike(whole(handed), before) || !slices.Equal(at[:cap(at)], atBefore) || !slices.Equal(l[:cap(l)], lBefore) {
						t.Fatalf("what was handed in was turned, part %v, slots %v", part, slots)
					}
				}
			}
		}
	}
}

// P4.5: turning what was answered turns neither what was handed in nor another answer; turning what was handed in turns no answer.
func TestNewMemory(t *testing.T) {
	for _, p := range append(patterns(4, 16), patterns(64, 128)...) {
		for _, from := range []int{0, 3, 15} {
			at, l := []int{from, from + 1}[:min(2, 16-from)], mixedPairs(min(2, 16-from), 8)
			s := roomy(p.packed())
			want, wantL := answers(p.packed(), from, 16, at, l)
			first, firstL := answers(s, from, 16, at, l)
			second, secondL := answers(s, from, 16, at, l)
			for i := range first {
				turnAll(first[i])
				if !alike(s, p.packed()) {
					t.Fatalf("answer %d from %d is what was handed in", i, from)
				}
				for j := i + 1; j < len(first); j++ {
					if !alike(first[j], want[j]) {
						t.Fatalf("answers %d and %d from %d share memory", i, j, from)
					}
				}
			}
			clear(firstL)
			turnAll(s)
			clear(l)
			clear(at)
			for i := range second {
				if !alike(second[i], want[i]) {
					t.Fatalf("answer %d from %d is what was handed in", i, from)
				}
			}
			wantPairs(t, secondL, api.OK, wantL, api.OK, "Pairs behind what was turned", from)
		}
	}
}

// P4.5: the lists of one answer, and of two new arrays, share nothing.
func TestNewSharesNothing(t *testing.T) {
	a, _ := New(4, 16)
	b, _ := New(4, 16)
	turnEach(a.Keys, -1)
	if !slices.Equal(a.Vals, b.Vals) || !slices.Equal(a.Keys, slices.Repeat([]int64{-1}, 16)) {
		t.Error("keys and values share memory")
	}
	turnAll(a)
	if !alike(b, plain{4, make([]cell, 16), 0}.packed()) {
		t.Error("new arrays share memory")
	}
	shared := make([]int64, 16)
	twin := Twin(api.Slots{Seg: 4, Words: make([]uint64, 1), Keys: shared, Vals: shared, Counts: make([]int, 4)})
	twin.Keys[0] = 1
	if twin.Vals[0] != 0 {
		t.Error("keys and values of a twin share memory")
	}
}

// P4.6: what is laid is there, no other slot is turned, Laid tells how many were laid, counts add up: over many steps.
func TestManySteps(t *testing.T) {
	for _, shape := range shapes() {
		seg, n := shape[0], shape[1]
		next := mixer(uint64(seg + n))
		s, e := New(seg, n)
		wantErr(t, e, api.OK, "New", seg, n)
		p := plain{seg, make([]cell, n), 0}
		for range 300 {
			at, to, x := next(n), next(n), mixedPair(next)
			was := p
			switch next(4) {
			case 0:
				s, e = Lay(s, at, x)
				p = p.lay(at, x)
			case 1:
				if p.cells[at].is {
					s, e = Clear(s, at)
					p = p.cleared(at, at+1)
				}
			case 2:
				if p.cells[at].is && !p.cells[to].is {
					s, e = Move(s, at, to)
					p = p.cleared(at, at+1).lay(to, was.cells[at].p)
				}
			case 3:
				from, to := min(at, to), max(at, to)
				slots := places(from, to)
				into := slots[next(len(slots))]
				l := mixedPairs(len(into), uint64(at))
				s, e = Fill(s, from, to, into, l)
				p = p.cleared(from, to)
				for i, slot := range into {
					p = p.lay(slot, l[i])
				}
			}
			wantSlots(t, s, e, p, "a step", seg, n)
			wantErr(t, Check(s), api.OK, "Check", s)
			sum := 0
			for _, count := range s.Counts {
				sum += count
			}
			l, e := Pairs(s, 0, n)
			if e != api.OK || sum != len(l) {
				t.Fatalf("counts add up to %d of %d pairs", sum, len(l))
			}
		}
	}
}
