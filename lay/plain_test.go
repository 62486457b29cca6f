package lay

import (
	"math"
	"slices"
	"testing"

	"shelfmark/api"
)

const (
	least    = math.MinInt64
	greatest = math.MaxInt64
	allBits  = ^uint64(0)
)

// plain is a gapped array told slot by slot, without words and counts; a slot that is not occupied is nil.
type plain struct {
	seg   int
	cells []*api.Pair
	laid  uint64
}

// packed packs p by the definition alone.
func (p plain) packed() api.Slots {
	n := len(p.cells)
	s := api.Slots{
		Seg:    p.seg,
		Words:  make([]uint64, n/64+min(n%64, 1)),
		Keys:   make([]int64, n),
		Vals:   make([]int64, n),
		Counts: make([]int, n/p.seg),
		Laid:   p.laid,
	}
	for at, x := range p.cells {
		if x != nil {
			s.Words[at/64] |= 1 << uint(at%64)
			s.Keys[at], s.Vals[at] = x.Key, x.Val
			s.Counts[at/p.seg]++
		}
	}
	return s
}

func (p plain) pairs(from, to int) []api.Pair {
	var l []api.Pair
	for _, x := range p.cells[from:to] {
		if x != nil {
			l = append(l, *x)
		}
	}
	return l
}

// spread is p behind l were spread over the slots from from on, ahead of to: it goes from place to place by whole steps, and one more whenever what was left over fills a slot.
func (p plain) spread(from, to int, l []api.Pair) plain {
	p.cells = slices.Clone(p.cells)
	clear(p.cells[from:to])
	n, at, over := len(l), from, 0
	for _, x := range l {
		p.cells[at] = &x
		p.laid++
		at += (to - from) / n
		over += (to - from) % n
		if over >= n {
			at++
			over -= n
		}
	}
	return p
}

// put are l with x ahead of the k-th of them, one by one.
func put(l []api.Pair, k int, x api.Pair) []api.Pair {
	var all []api.Pair
	for i := range len(l) + 1 {
		if i == k {
			all = append(all, x)
		}
		if i < len(l) {
			all = append(all, l[i])
		}
	}
	return all
}

func mixer(seed uint64) func(below int) int {
	return func(below int) int {
		seed = seed*6364136223846793005 + 1442695040888963407
		return int(seed>>33) % below
	}
}

// numbers are keys and values: 0, the least and the greatest among them.
func numbers() []int64 {
	return []int64{0, 1, -1, 7, -7, 1 << 40, least, least + 1, greatest, greatest - 1}
}

// mixedPair is the i-th of some: keys come again and don't rise, values tell most of them apart.
func mixedPair(i int, next func(int) int) api.Pair {
	l := numbers()
	p := api.Pair{Key: l[next(len(l))], Val: int64(1000 + i)}
	if next(4) == 0 {
		p.Val = l[next(len(l))]
	}
	return p
}

// mixedPairs are n pairs that don't rise, with room behind them.
func mixedPairs(n int, seed uint64) []api.Pair {
	next := mixer(seed)
	l := make([]api.Pair, 0, n+3)
	for i := range n {
		l = append(l, mixedPair(i, next))
	}
	return l
}

// risingPairs are n pairs whose keys rise, 0 among them.
func risingPairs(n int) []api.Pair {
	l := make([]api.Pair, n)
	for i := range l {
		l[i] = api.Pair{Key: int64(3 * (i - n/2)), Val: int64(n - i)}
	}
	return l
}

// shapes are segments and numbers of slots, around the ends of words.
func shapes() [][2]int {
	return [][2]int{{4, 4}, {4, 8}, {8, 8}, {4, 16}, {16, 16}, {8, 32}, {32, 32}, {4, 64}, {64, 64}, {16, 128}, {64, 128}}
}

// patterns are arrays of a shape: without pairs, full, full but for one slot, with few, with pairs at one end, and mixed ones; ledgers at any number.
func patterns(seg, many int) []plain {
	next := mixer(uint64(seg*many) + 1)
	rules := []func(at int) bool{
		func(int) bool { return false },
		func(int) bool { return true },
		func(at int) bool { return at != many/2 },
		func(at int) bool { return at == 0 },
		func(at int) bool { return at == many-1 },
		func(at int) bool { return at == 0 || at == many-1 },
		func(at int) bool { return at < many/2 },
		func(at int) bool { return at >= many-3 },
		func(at int) bool { return at%2 == 1 },
		func(int) bool { return next(2) == 0 },
		func(int) bool { return next(8) == 0 },
		func(int) bool { return next(8) > 0 },
	}
	laids := []uint64{0, allBits, allBits - 1, 5, allBits - 3, 1 << 63, 1<<63 - 1, 1<<32 - 1, 1, allBits - 8, 77, 1 << 32}
	var l []plain
	for i, rule := range rules {
		p := plain{seg, make([]*api.Pair, many), laids[i]}
		for at := range p.cells {
			if rule(at) {
				x := mixedPair(at, next)
				p.cells[at] = &x
			}
		}
		l = append(l, p)
	}
	return l
}

// alike tells whether all of a and b is the same.
func alike(a, b api.Slots) bool {
	return a.Seg == b.Seg && a.Laid == b.Laid && slices.Equal(a.Words, b.Words) && slices.Equal(a.Keys, b.Keys) &&
		slices.Equal(a.Vals, b.Vals) && slices.Equal(a.Counts, b.Counts)
}

// everyArray hands on each pattern of each shape, and asks behind it that the array is what it was.
func everyArray(t *testing.T, do func(p plain, s api.Slots)) {
	t.Helper()
	for _, shape := range shapes() {
		for i, p := range patterns(shape[0], shape[1]) {
			s := p.packed()
			do(p, s)
			if !alike(s, p.packed()) {
				t.Fatalf("array %d of %v was turned", i, shape)
			}
		}
	}
}

// some are slots of n, and n: all of a few; of many the ends of all, and those around segments and words.
func some(n int) []int {
	var l []int
	for at := range n + 1 {
		near := at%64 <= 1 || at%64 == 63 || at == 3 || at == 10 || at == n/2-5 || at == n-3
		if n <= 16 || near {
			l = append(l, at)
		}
	}
	return l
}

// parts are ends of parts of n slots, those without slots and all among them.
func parts(n int) [][2]int {
	var l [][2]int
	for _, from := range some(n) {
		for _, to := range some(n) {
			if from <= to {
				l = append(l, [2]int{from, to})
			}
		}
	}
	return l
}

// badParts are ends of parts of n slots that are outside, or turned round.
func badParts(n int) [][2]int {
	l := [][2]int{{1, 0}, {n, 0}, {n, n - 1}, {n / 2, n/2 - 1}, {n + 1, n}, {0, -1}, {greatest, least}, {least, greatest}, {-1, n + 1}}
	for _, out := range []int{-1, -4, -64, least, least + 1, n + 1, n + 4, 2 * n, api.MaxSlots + 1, 1 << 32, greatest - 1, greatest} {
		l = append(l, [2]int{out, out}, [2]int{out, 0}, [2]int{0, out}, [2]int{out, n}, [2]int{n, out}, [2]int{n / 2, out}, [2]int{out, n / 2})
	}
	return l
}

// someNumbers are places among n pairs: each of a few, and some of many.
func someNumbers(n int) []int {
	var l []int
	for k := range n + 1 {
		if n <= 8 || k <= 1 || k == n/2 || k >= n-1 {
			l = append(l, k)
		}
	}
	return l
}

// badNumbers are no places among n pairs.
func badNumbers(n int) []int {
	return []int{-1, -2, -n - 1, n + 1, n + 2, 2*n + 1, api.MaxSlots + n + 1, 1<<32 + n, least, least + 1, greatest - 1, greatest}
}

// comers are pairs that come to l: of zeros, at the ends of numbers, with a key that is there, and one that is there whole.
func comers(l []api.Pair) []api.Pair {
	all := []api.Pair{{}, {Key: 0, Val: 9}, {Key: 5, Val: 0}, {Key: least, Val: greatest}, {Key: greatest, Val: least}, {Key: -3, Val: -3}}
	for _, x := range someNumbers(len(l)) {
		if x < len(l) {
			all = append(all, l[x], api.Pair{Key: l[x].Key, Val: -5})
		}
	}
	return all
}

// badSizes are numbers of slots that an array of segments of seg may not have.
func badSizes(seg int) []int {
	return []int{0, 1, 2, 3, seg / 2, seg - 1, seg + 1, seg + seg/2, 2*seg - 1, 2*seg + 1, 3 * seg, 5 * seg, 6 * seg, 7 * seg, 12 * seg, 1000 * seg,
		api.MaxSlots - seg, api.MaxSlots - 1, api.MaxSlots + 1, api.MaxSlots + seg, 2 * api.MaxSlots, 1 << 32, 1 << 62,
		-1, -seg, -2 * seg, -api.MaxSlots, least, least + 1, greatest - 1, greatest}
}

// spoiltOne is an array that may not be, and why.
type spoiltOne struct {
	why string
	s   api.Slots
}

// spoilt are arrays that may not be, each by one thing alone.
func spoilt(p plain) []spoiltOne {
	var l []spoiltOne
	spoil := func(why string, turn func(s *api.Slots)) {
		s := p.packed()
		turn(&s)
		l = append(l, spoiltOne{why, s})
	}
	n := len(p.cells)
	for _, seg := range []int{0, 1, 2, 3, 5, 12, p.seg + 1, p.seg - 1, 128, -4, -p.seg, least, greatest} {
		spoil("a segment that may not be", func(s *api.Slots) { s.Seg = seg })
	}
	spoil("a slot less", func(s *api.Slots) { s.Keys, s.Vals = s.Keys[:n-1], s.Vals[:n-1] })
	spoil("a slot more", func(s *api.Slots) { s.Keys, s.Vals = append(s.Keys, 0), append(s.Vals, 0) })
	spoil("half of the slots", func(s *api.Slots) { s.Keys, s.Vals = s.Keys[:n/2], s.Vals[:n/2] })
	spoil("no slots", func(s *api.Slots) { s.Words, s.Keys, s.Vals, s.Counts = nil, nil, nil, nil })
	spoil("a key less", func(s *api.Slots) { s.Keys = s.Keys[:n-1] })
	spoil("a value less", func(s *api.Slots) { s.Vals = s.Vals[:n-1] })
	spoil("a value more", func(s *api.Slots) { s.Vals = append(s.Vals, 0) })
	spoil("no values", func(s *api.Slots) { s.Vals = nil })
	spoil("no words", func(s *api.Slots) { s.Words = nil })
	spoil("a word more", func(s *api.Slots) { s.Words = append(s.Words, 0) })
	spoil("no counts", func(s *api.Slots) { s.Counts = nil })
	spoil("a count more", func(s *api.Slots) { s.Counts = append(s.Counts, 0) })
	spoil("a count less", func(s *api.Slots) { s.Counts = s.Counts[:len(s.Counts)-1] })
	for _, by := range []int{1, -1, p.seg, least} {
		spoil("a count that is wrong", func(s *api.Slots) { s.Counts[len(s.Counts)-1] += by })
	}
	if n < 64 {
		spoil("a bit beyond the slots", func(s *api.Slots) { s.Words[0] |= 1 << uint(n) })
	}
	spoil("a bit that is not counted", func(s *api.Slots) { s.Words[0] ^= 1 })
	if gap := slices.Index(p.cells, nil); gap >= 0 {
		spoil("a key in a gap", func(s *api.Slots) { s.Keys[gap] = 1 })
		spoil("a value in a gap", func(s *api.Slots) { s.Vals[gap] = least })
	}
	return l
}

// sized is an array of so many slots without pairs, whether it may be or not.
func sized(seg, many int) api.Slots {
	return api.Slots{Seg: seg, Words: make([]uint64, (many+63)/64), Keys: make([]int64, many), Vals: make([]int64, many), Counts: make([]int, many/seg)}
}

// badArrays are arrays that may not be, of each kind.
func badArrays() []spoiltOne {
	l := []spoiltOne{
		{"nothing", api.Slots{}},
		{"a segment alone", api.Slots{Seg: 4}},
		{"lists without elements", api.Slots{Seg: 4, Words: []uint64{}, Keys: []int64{}, Vals: []int64{}, Counts: []int{}}},
		{"three segments", sized(4, 12)},
		{"half a segment", sized(8, 4)},
		{"segments of two", sized(2, 8)},
		{"segments of three", sized(3, 12)},
		{"segments of 128", sized(128, 128)},
		{"more slots than there may be", sized(4, 2*api.MaxSlots)},
		{"a segment more than there may be", sized(64, api.MaxSlots+64)},
	}
	for _, shape := range [][2]int{{4, 8}, {8, 16}, {64, 64}} {
		some := patterns(shape[0], shape[1])
		for _, i := range []int{0, 1, 2, 9} {
			l = append(l, spoilt(some[i])...)
		}
	}
	return l
}

// roomy is s in lists with room behind them, into which a careless append would write.
func roomy(s api.Slots) api.Slots {
	s.Words = append(make([]uint64, 0, len(s.Words)+4), s.Words...)
	s.Keys = append(make([]int64, 0, len(s.Keys)+4), s.Keys...)
	s.Vals = append(make([]int64, 0, len(s.Vals)+4), s.Vals...)
	s.Counts = append(make([]int, 0, len(s.Counts)+4), s.Counts...)
	return s
}

// whole is s with the room behind its lists.
func whole(s api.Slots) api.Slots {
	s.Words, s.Keys = s.Words[:cap(s.Words)], s.Keys[:cap(s.Keys)]
	s.Vals, s.Counts = s.Vals[:cap(s.Vals)], s.Counts[:cap(s.Counts)]
	return s
}

// copied is s in new memory.
func copied(s api.Slots) api.Slots {
	s.Words, s.Keys = slices.Clone(s.Words), slices.Clone(s.Keys)
	s.Vals, s.Counts = slices.Clone(s.Vals), slices.Clone(s.Counts)
	return s
}

// turnAll turns each thing of the lists, and those of the room behind them.
func turnAll(s api.Slots) {
	turnEach(s.Words, allBits)
	turnEach(s.Keys, -1)
	turnEach(s.Vals, -1)
	turnEach(s.Counts, -1)
}

func turnEach[T uint64 | int64 | int](l []T, by T) {
	l = l[:cap(l)]
	for i := range l {
		l[i] ^= by
	}
}

func wantSlots(t *testing.T, s api.Slots, e api.Errno, want plain, what string, args ...any) {
	t.Helper()
	if e != api.OK || !alike(s, want.packed()) {
		t.Errorf("%s%v = %v, %d; want %v", what, args, s, int(e), want.packed())
	}
}

// wantRefused asks for the error, and for nothing beside it.
func wantRefused(t *testing.T, s api.Slots, e, want api.Errno, what string, args ...any) {
	t.Helper()
	if e != want || !alike(s, api.Slots{}) {
		t.Errorf("%s%v = %v, %d; want nothing, %d", what, args, s, int(e), int(want))
	}
}
