package seek

import (
	"math"
	"slices"
	"testing"

	"shelfmark/api"
)

const (
	least    = math.MinInt64
	greatest = math.MaxInt64
	allBits  = ^uint64(0)
)

// cell is a slot told without words: whether it is occupied, and by what key.
type cell struct {
	is  bool
	key int64
}

// plain is a gapped array told slot by slot.
type plain struct {
	seg   int
	cells []cell
}

// packed packs p by the definition alone; values fall where keys rise, and the ledger is any number.
func (p plain) packed() api.Slots {
	n := len(p.cells)
	s := api.Slots{
		Seg:    p.seg,
		Words:  make([]uint64, n/64+min(n%64, 1)),
		Keys:   make([]int64, n),
		Vals:   make([]int64, n),
		Counts: make([]int, n/p.seg),
		Laid:   allBits,
	}
	for at, c := range p.cells {
		if c.is {
			s.Words[at/64] |= 1 << uint(at%64)
			s.Keys[at], s.Vals[at] = c.key, ^c.key
			s.Counts[at/p.seg]++
		}
	}
	return s
}

// keys are those of the occupied slots, in order.
func (p plain) keys() []int64 {
	var l []int64
	for _, c := range p.cells {
		if c.is {
			l = append(l, c.key)
		}
	}
	return l
}

// slots are the occupied ones.
func (p plain) slots() []int {
	var l []int
	for at, c := range p.cells {
		if c.is {
			l = append(l, at)
		}
	}
	return l
}

// sorted tells whether each key is above all those ahead of it.
func (p plain) sorted() bool {
	l := p.keys()
	for i, key := range l {
		if i > 0 && key <= l[i-1] {
			return false
		}
	}
	return true
}

// with is p with the k-th of its keys another one.
func (p plain) with(k int, key int64) plain {
	p.cells = slices.Clone(p.cells)
	p.cells[p.slots()[k]].key = key
	return p
}

// placed is an array with keys in slots, in their order.
func placed(seg, many int, at []int, keys []int64) plain {
	p := plain{seg, make([]cell, many)}
	for i, slot := range at {
		p.cells[slot] = cell{true, keys[i]}
	}
	return p
}

// answer is what a call answers.
type answer struct {
	n int
	e api.Errno
}

// answers are those of the calls of one key.
type answers struct {
	rank, find, next, last answer
}

// asked are the answers of the package.
func asked(s api.Slots, key int64) answers {
	var a answers
	a.rank.n, a.rank.e = Rank(s, key)
	a.find.n, a.find.e = Find(s, key)
	a.next.n, a.next.e = Next(s, key)
	a.last.n, a.last.e = Last(s, key)
	return a
}

// told are the answers of an array that is sorted, by the words alone, cell by cell.
func told(p plain, key int64) answers {
	none := answer{0, api.ErrNone}
	a := answers{answer{}, none, none, none}
	for at, c := range p.cells {
		if !c.is {
			continue
		}
		if c.key < key {
			a.rank.n++
			a.last = answer{at, api.OK}
			continue
		}
		if a.next == none {
			a.next = answer{at, api.OK}
		}
		if c.key == key {
			a.find = answer{at, api.OK}
		}
	}
	return a
}

// refused are the answers of an array that is none, or not sorted.
func refused(e api.Errno) answers {
	no := answer{0, e}
	return answers{no, no, no, no}
}

func wantCheck(t *testing.T, s api.Slots, want api.Errno, what string, args ...any) {
	t.Helper()
	if e := Check(s); e != want {
		t.Errorf("Check of %s %v: error %d; want %d", what, args, int(e), int(want))
	}
}

func wantAnswers(t *testing.T, s api.Slots, key int64, want answers, what string, args ...any) {
	t.Helper()
	if got := asked(s, key); got != want {
		t.Errorf("%s %v: of %d %v; want %v", what, args, key, got, want)
	}
}

// wantRefused asks for the error from each call, whatever key is asked.
func wantRefused(t *testing.T, s api.Slots, e api.Errno, what string, args ...any) {
	t.Helper()
	wantCheck(t, s, e, what, args...)
	for _, key := range []int64{least, -1, 0, 1, 5, greatest} {
		wantAnswers(t, s, key, refused(e), what, args...)
	}
}

// alike tells whether all of a and b is the same.
func alike(a, b api.Slots) bool {
	return a.Seg == b.Seg && a.Laid == b.Laid && slices.Equal(a.Words, b.Words) && slices.Equal(a.Keys, b.Keys) &&
		slices.Equal(a.Vals, b.Vals) && slices.Equal(a.Counts, b.Counts)
}

func mixer(seed uint64) func(below int) int {
	return func(below int) int {
		seed = seed*6364136223846793005 + 1442695040888963407
		return int(seed>>33) % below
	}
}

// shapes are segments and numbers of slots, of one segment and of many, around the ends of words.
func shapes() [][2]int {
	return [][2]int{{4, 4}, {4, 8}, {4, 16}, {4, 64}, {4, 128}, {8, 8}, {8, 32}, {16, 16}, {16, 128}, {32, 32}, {32, 64}, {64, 64}, {64, 128}, {64, 256}}
}

// greatShapes are those of the most slots, and one between.
func greatShapes() [][2]int {
	return [][2]int{{8, 4096}, {4, api.MaxSlots}, {64, api.MaxSlots}}
}

// rows are slots of a shape: none, one of them alone, all, those of a segment alone, and mixed ones.
func rows(seg, many int) [][]int {
	next := mixer(uint64(seg*many) + 7)
	rules := []func(at int) bool{
		func(int) bool { return false },
		func(at int) bool { return at == 0 },
		func(at int) bool { return at == many/2 },
		func(at int) bool { return at == many-1 },
		func(int) bool { return true },
		func(at int) bool { return at < seg },
		func(at int) bool { return at >= many-seg },
		func(at int) bool { return at == 0 || at == many-1 },
		func(at int) bool { return at%seg == seg-1 },
		func(at int) bool { return at%seg == 0 },
		func(at int) bool { return at < many/2 },
		func(at int) bool { return at >= many/2 },
		func(int) bool { return next(2) == 0 },
		func(int) bool { return next(8) == 0 },
		func(int) bool { return next(30) == 0 },
	}
	var l [][]int
	for _, rule := range rules {
		var row []int
		for at := range many {
			if rule(at) {
				row = append(row, at)
			}
		}
		l = append(l, row)
	}
	return l
}

// risingKeys are lists of n keys that rise: side by side, apart, below 0, from the least number on, up to the greatest one, with both, and by mixed steps.
func risingKeys(n int) [][]int64 {
	next := mixer(uint64(n) + 3)
	from := func(first int64, step func(i int) int64) []int64 {
		l := make([]int64, n)
		for i := range l {
			l[i] = first
			first += step(i)
		}
		return l
	}
	ones := func(int) int64 { return 1 }
	threes := func(int) int64 { return 3 }
	l := [][]int64{
		from(int64(-n/2), ones),
		from(int64(-3*(n/2)), threes),
		from(int64(-3*n), threes),
		from(1, threes),
		from(least, threes),
		from(greatest-3*int64(max(n, 1)-1), threes),
		from(-int64(n), func(int) int64 { return int64(1 + next(5)) }),
		from(least, func(int) int64 { return greatest/int64(n)*2 - int64(next(9)) }),
	}
	if n > 1 {
		ends := from(int64(-n), threes)
		ends[0], ends[n-1] = least, greatest
		l = append(l, ends)
	}
	return l
}

// everySorted hands on an array of each shape with each row of slots and each list of keys, and asks behind it that the array is what it was.
func everySorted(t *testing.T, shapes [][2]int, do func(p plain, s api.Slots)) {
	t.Helper()
	for _, shape := range shapes {
		for _, row := range rows(shape[0], shape[1]) {
			for _, keys := range risingKeys(len(row)) {
				p := placed(shape[0], shape[1], row, keys)
				s := p.packed()
				do(p, s)
				if !alike(s, p.packed()) {
					t.Fatalf("an array of %v was turned", shape)
				}
			}
		}
	}
}

// beside are each of the keys, those one beside it, and the least, the greatest and the middle number, in order.
func beside(keys []int64) []int64 {
	l := []int64{least, -1, 0, 1, greatest}
	for _, key := range keys {
		l = append(l, key)
		if key > least {
			l = append(l, key-1)
		}
		if key < greatest {
			l = append(l, key+1)
		}
	}
	slices.Sort(l)
	return slices.Compact(l)
}

// few are the keys at the ends, and some amid.
func few(keys []int64, next func(int) int) []int64 {
	n := len(keys)
	if n < 6 {
		return keys
	}
	return []int64{keys[0], keys[1], keys[next(n)], keys[n/2], keys[n-2], keys[n-1]}
}
