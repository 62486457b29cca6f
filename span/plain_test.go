package span

import (
	"math"
	"slices"
	"testing"

	"shelfmark/api"
)

const (
	least    = math.MinInt64
	greatest = math.MaxInt64
	allBits  = ^uint64(0)
)

// cell is a slot told without words: whether it is occupied, and by what pair.
type cell struct {
	is   bool
	pair api.Pair
}

// plain is a gapped array told slot by slot.
type plain struct {
	seg   int
	cells []cell
}

// packed packs p by the definition alone; the ledger is any number.
func (p plain) packed() api.Slots {
	n := len(p.cells)
	s := api.Slots{
		Seg:    p.seg,
		Words:  make([]uint64, n/64+min(n%64, 1)),
		Keys:   make([]int64, n),
		Vals:   make([]int64, n),
		Counts: make([]int, n/p.seg),
		Laid:   allBits,
	}
	for at, c := range p.cells {
		if c.is {
			s.Words[at/64] |= 1 << uint(at%64)
			s.Keys[at], s.Vals[at] = c.pair.Key, c.pair.Val
			s.Counts[at/p.seg]++
		}
	}
	return s
}

// pairs are those of the occupied slots, in order.
func (p plain) pairs() []api.Pair {
	var l []api.Pair
	for _, c := range p.cells {
		if c.is {
			l = append(l, c.pair)
		}
	}
	return l
}

func (p plain) keys() []int64 {
	var l []int64
	for _, x := range p.pairs() {
		l = append(l, x.Key)
	}
	return l
}

// slots are the occupied ones.
func (p plain) slots() []int {
	var l []int
	for at, c := range p.cells {
		if c.is {
			l = append(l, at)
		}
	}
	return l
}

// sorted tells whether each key is above the one ahead of it.
func (p plain) sorted() bool {
	l := p.keys()
	for i := 1; i < len(l); i++ {
		if l[i] <= l[i-1] {
			return false
		}
	}
	return true
}

// with is p with the k-th of its keys another one.
func (p plain) with(k int, key int64) plain {
	p.cells = slices.Clone(p.cells)
	p.cells[p.slots()[k]].pair.Key = key
	return p
}

// valOf is the value that a key has in tests: another one for each key, and in another order.
func valOf(key int64) int64 {
	return ^key
}

// placed is an array with keys in slots, in their order.
func placed(seg, many int, at []int, keys []int64) plain {
	p := plain{seg, make([]cell, many)}
	for i, slot := range at {
		p.cells[slot] = cell{true, api.Pair{Key: keys[i], Val: valOf(keys[i])}}
	}
	return p
}

// answer is what a call of one pair answers.
type answer struct {
	pair api.Pair
	e    api.Errno
}

// told is the last pair of l that fits, or the first one, as told by the words alone.
func told(l []api.Pair, last bool, fits func(key int64) bool) answer {
	a := answer{e: api.ErrNone}
	for _, p := range l {
		if fits(p.Key) && (last || a.e != api.OK) {
			a = answer{p, api.OK}
		}
	}
	return a
}

func toldFloor(l []api.Pair, key int64) answer {
	return told(l, true, func(other int64) bool { return other <= key })
}

func toldCeiling(l []api.Pair, key int64) answer {
	return told(l, false, func(other int64) bool { return other >= key })
}

func toldSelect(l []api.Pair, k int) answer {
	if k < 0 || k >= len(l) {
		return answer{e: api.ErrRange}
	}
	return answer{l[k], api.OK}
}

// toldScan goes through all pairs, and counts those that fit.
func toldScan(l []api.Pair, from, to int64, most int) ([]api.Pair, api.Errno) {
	if most < 0 || most > 1000 {
		return nil, api.ErrArg
	}
	var out []api.Pair
	for _, p := range l {
		if p.Key >= from && p.Key <= to && len(out) < most {
			out = append(out, p)
		}
	}
	return out, api.OK
}

func wantAnswer(t *testing.T, p api.Pair, e api.Errno, want answer, what string, args ...any) {
	t.Helper()
	if (answer{p, e}) != want {
		t.Errorf("%s of %v: %v, error %d; want %v", what, args, p, int(e), want)
	}
}

// wantEnds asks Min and Max.
func wantEnds(t *testing.T, s api.Slots, l []api.Pair) {
	t.Helper()
	all := func(int64) bool { return true }
	p, e := Min(s)
	wantAnswer(t, p, e, told(l, false, all), "Min", len(l))
	p, e = Max(s)
	wantAnswer(t, p, e, told(l, true, all), "Max", len(l))
}

// wantSides asks Floor and Ceiling of a key.
func wantSides(t *testing.T, s api.Slots, l []api.Pair, key int64) {
	t.Helper()
	p, e := Floor(s, key)
	wantAnswer(t, p, e, toldFloor(l, key), "Floor", key, len(l))
	p, e = Ceiling(s, key)
	wantAnswer(t, p, e, toldCeiling(l, key), "Ceiling", key, len(l))
}

func wantSelect(t *testing.T, s api.Slots, l []api.Pair, k int) {
	t.Helper()
	p, e := Select(s, k)
	wantAnswer(t, p, e, toldSelect(l, k), "Select", k, len(l))
}

func wantScan(t *testing.T, s api.Slots, l []api.Pair, from, to int64, most int) {
	t.Helper()
	got, e := Scan(s, from, to, most)
	want, wantE := toldScan(l, from, to, most)
	if e != wantE || !slices.Equal(got, want) {
		t.Errorf("Scan of %d to %d, most %d, of %d keys: %v, error %d; want %v, %d", from, to, most, len(l), got, int(e), want, int(wantE))
	}
}

// wantRefused asks for the error from each call, whatever else is asked, with zero values beside it.
func wantRefused(t *testing.T, s api.Slots, e api.Errno, what string, args ...any) {
	t.Helper()
	no := answer{e: e}
	p, got := Min(s)
	wantAnswer(t, p, got, no, "Min", what, args)
	p, got = Max(s)
	wantAnswer(t, p, got, no, "Max", what, args)
	for _, key := range []int64{least, 0, 5, greatest} {
		p, got = Floor(s, key)
		wantAnswer(t, p, got, no, "Floor", what, args, key)
		p, got = Ceiling(s, key)
		wantAnswer(t, p, got, no, "Ceiling", what, args, key)
	}
	for _, k := range []int{least, -1, 0, 1, greatest} {
		p, got = Select(s, k)
		wantAnswer(t, p, got, no, "Select", what, args, k)
		for _, ends := range [][2]int64{{least, greatest}, {0, 0}, {1, -1}, {least, least}} {
			l, got := Scan(s, ends[0], ends[1], k)
			if got != e || len(l) > 0 {
				t.Errorf("Scan of %s %v: %v to %v, most %d: %v, error %d; want %d", what, args, ends[0], ends[1], k, l, int(got), int(e))
			}
		}
	}
}

// alike tells whether all of a and b is the same.
func alike(a, b api.Slots) bool {
	return a.Seg == b.Seg && a.Laid == b.Laid && slices.Equal(a.Words, b.Words) && slices.Equal(a.Keys, b.Keys) &&
		slices.Equal(a.Vals, b.Vals) && slices.Equal(a.Counts, b.Counts)
}

func mixer(seed uint64) func(below int) int {
	return func(below int) int {
		seed = seed*6364136223846793005 + 1442695040888963407
		return int(seed>>33) % below
	}
}

// shapes are segments and numbers of slots, of one segment and of many, around the ends of words.
func shapes() [][2]int {
	return [][2]int{{4, 4}, {4, 8}, {4, 16}, {4, 64}, {4, 128}, {8, 8}, {8, 32}, {16, 16}, {16, 128}, {32, 32}, {32, 64}, {64, 64}, {64, 128}, {64, 256}}
}

// greatShapes are those of the most slots, and one between.
func greatShapes() [][2]int {
	return [][2]int{{8, 4096}, {4, api.MaxSlots}, {64, api.MaxSlots}}
}

// rows are slots of a shape: none, one of them alone, all, those of a segment alone, and mixed ones.
func rows(seg, many int) [][]int {
	next := mixer(uint64(seg*many) + 7)
	rules := []func(at int) bool{
		func(int) bool { return false },
		func(at int) bool { return at == 0 },
		func(at int) bool { return at == many/2 },
		func(at int) bool { return at == many-1 },
		func(int) bool { return true },
		func(at int) bool { return at < seg },
		func(at int) bool { return at >= many-seg },
		func(at int) bool { return at == 0 || at == many-1 },
		func(at int) bool { return at%seg == seg-1 },
		func(at int) bool { return at%seg == 0 },
		func(at int) bool { return at < many/2 },
		func(at int) bool { return at >= many/2 },
		func(int) bool { return next(2) == 0 },
		func(int) bool { return next(8) == 0 },
		func(int) bool { return next(30) == 0 },
	}
	var l [][]int
	for _, rule := range rules {
		var row []int
		for at := range many {
			if rule(at) {
				row = append(row, at)
			}
		}
		l = append(l, row)
	}
	return l
}

// risingKeys are lists of n keys that rise: side by side, apart, below 0, from the least number on, up to the greatest one, with both, and by mixed steps.
func risingKeys(n int) [][]int64 {
	next := mixer(uint64(n) + 3)
	from := func(first int64, step func(i int) int64) []int64 {
		l := make([]int64, n)
		for i := range l {
			l[i] = first
			first += step(i)
		}
		return l
	}
	ones := func(int) int64 { return 1 }
	threes := func(int) int64 { return 3 }
	l := [][]int64{
		from(int64(-n/2), ones),
		from(int64(-3*(n/2)), threes),
		from(int64(-3*n), threes),
		from(1, threes),
		from(least, threes),
		from(greatest-3*int64(max(n, 1)-1), threes),
		from(-int64(n), func(int) int64 { return int64(1 + next(5)) }),
		from(least, func(int) int64 { return greatest/int64(n)*2 - int64(next(9)) }),
	}
	if n > 1 {
		ends := from(int64(-n), threes)
		ends[0], ends[n-1] = least, greatest
		l = append(l, ends)
	}
	return l
}

// everySorted hands on an array of each shape with each row of slots and each list of keys, and asks behind it that the array is what it was.
func everySorted(t *testing.T, shapes [][2]int, do func(p plain, s api.Slots)) {
	t.Helper()
	for _, shape := range shapes {
		for _, row := range rows(shape[0], shape[1]) {
			for _, keys := range risingKeys(len(row)) {
				p := placed(shape[0], shape[1], row, keys)
				s := p.packed()
				do(p, s)
				if !alike(s, p.packed()) {
					t.Fatalf("an array of %v was turned", shape)
				}
			}
		}
	}
}

// everySmall hands on all arrays of so many slots, each of them a gap, or occupied by one of the keys.
func everySmall(seg, many int, keys []int64, do func(p plain)) {
	p := plain{seg, make([]cell, many)}
	kinds := len(keys) + 1
	all := 1
	for range many {
		all *= kinds
	}
	for code := range all {
		for at := range p.cells {
			p.cells[at] = cell{}
			if kind := code % kinds; kind > 0 {
				key := keys[kind-1]
				p.cells[at] = cell{true, api.Pair{Key: key, Val: valOf(key)}}
			}
			code /= kinds
		}
		do(p)
	}
}

// beside are each of the keys, those one beside it, and the least, the greatest and the middle number, in order.
func beside(keys []int64) []int64 {
	l := []int64{least, -1, 0, 1, greatest}
	for _, key := range keys {
		l = append(l, key)
		if key > least {
			l = append(l, key-1)
		}
		if key < greatest {
			l = append(l, key+1)
		}
	}
	slices.Sort(l)
	return slices.Compact(l)
}

// few are the keys at the ends, and some amid.
func few(keys []int64, next func(int) int) []int64 {
	n := len(keys)
	if n < 6 {
		return keys
	}
	return []int64{keys[0], keys[1], keys[next(n)], keys[n/2], keys[n-2], keys[n-1]}
}

// numbers are those of some of n pairs, both ends, and such as no pair has.
func numbers(n int, next func(int) int) []int {
	return []int{least, -n, -2, -1, 0, 1, 2, n/2 - 1, n / 2, n/2 + 1, next(n + 1), n - 2, n - 1, n, n + 1, n + 64, 1 << 32, greatest}
}

// mosts are numbers for Scan of n keys: some that may be, those at both ends, and such as may not.
func mosts(n int) []int {
	return []int{least, -1000, -1, 0, 1, 2, 3, n / 2, n - 1, n, n + 1, 999, 1000, 1001, 1 << 20, 1 << 32, greatest}
}

// roomy is s with room behind its lists, in which something stands.
func roomy(s api.Slots) api.Slots {
	s.Words = append(s.Words, allBits, 5, 0)[:len(s.Words)]
	s.Keys = append(s.Keys, 7, least, 7, greatest, 0)[:len(s.Keys)]
	s.Vals = append(s.Vals, 1, 2, 3)[:len(s.Vals)]
	s.Counts = append(s.Counts, 1, 2, 3)[:len(s.Counts)]
	return s
}

// whole is a copy of s, the room behind its lists among it.
func whole(s api.Slots) api.Slots {
	s.Words = append([]uint64{}, s.Words[:cap(s.Words)]...)
	s.Keys = append([]int64{}, s.Keys[:cap(s.Keys)]...)
	s.Vals = append([]int64{}, s.Vals[:cap(s.Vals)]...)
	s.Counts = append([]int{}, s.Counts[:cap(s.Counts)]...)
	return s
}
