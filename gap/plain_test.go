package gap

import (
	"math"
	"slices"
	"testing"

	"shelfmark/api"
)

const (
	least    = math.MinInt64
	greatest = math.MaxInt64
	allBits  = ^uint64(0)
)

// example is the config of chapter 5: one capacity, of height 2.
func example() api.Config {
	return api.Config{Tag: api.TagPma, Most: 8, Seg: 4, Least: 16, Den: 8, LeafLow: 0, RootLow: 1, RootHigh: 4, LeafHigh: 8}
}

// growing has the capacities 16 to 128, of heights 1 to 4; its segments are never too empty.
func growing() api.Config {
	return api.Config{Tag: api.TagCob, Most: 64, Seg: 8, Least: 16, Den: 8, LeafLow: 0, RootLow: 1, RootHigh: 4, LeafHigh: 8}
}

// fromFlat has the capacities 16 to 1,024, of heights 0 to 6; its segments may be too empty.
func fromFlat() api.Config {
	return api.Config{Tag: api.TagLog, Most: 500, Seg: 16, Least: 16, Den: 64, LeafLow: 7, RootLow: 8, RootHigh: 32, LeafHigh: 64}
}

// tilted is a config whose fractions don't go up in the slots; segments that are as full as they may be have room.
func tilted() api.Config {
	return api.Config{Tag: api.TagPma, Most: 300, Seg: 32, Least: 64, Den: 23, LeafLow: 1, RootLow: 2, RootHigh: 13, LeafHigh: 20}
}

// flat has one capacity, of height 0.
func flat() api.Config {
	return api.Config{Tag: api.TagCob, Most: 8, Seg: 16, Least: 16, Den: 8, LeafLow: 0, RootLow: 1, RootHigh: 4, LeafHigh: 5}
}

// widest has sizes at their limits, the greatest capacity (32,768) among them.
func widest() api.Config {
	return api.Config{Tag: api.TagLog, Most: api.MaxMost, Seg: api.MaxSeg, Least: api.MaxLeast, Den: api.MaxDen, LeafLow: 3, RootLow: 8, RootHigh: 32, LeafHigh: 64}
}

// named are configs that differ in what may happen in them.
func named() []api.Config {
	return []api.Config{example(), growing(), fromFlat(), tilted(), flat()}
}

func mixer(seed uint64) func(below int) int {
	return func(below int) int {
		seed = seed*6364136223846793005 + 1442695040888963407
		return int(seed>>33) % below
	}
}

// mayBe tells whether a config of the form that mixedConfigs makes may be.
func mayBe(c api.Config) bool {
	height := doublings(c.Seg, c.Least)
	for size := c.Least; c.Most*c.Den > c.RootHigh*size; size *= 2 {
		height++
	}
	return c.Most <= api.MaxMost && c.Least <= api.MaxLeast && c.LeafLow < c.RootLow && 8*c.RootLow <= c.Den && c.RootLow*c.Least >= 2*c.Den &&
		2*c.RootHigh >= c.Den && c.LeafHigh <= c.Den && (c.LeafHigh-c.RootHigh)*c.Seg >= c.Den*height
}

// mixedConfigs are n configs that may be, from all over what may be, with at most so many pairs.
func mixedConfigs(n, most int, seed uint64) []api.Config {
	next := mixer(seed)
	var l []api.Config
	for len(l) < n {
		c := api.Config{Tag: uint8(1 + next(3)), Most: 1 + next(most), Seg: 4 << next(5), Den: 1 + next(64)}
		c.Least = c.Seg << next(7)
		c.RootLow = 1 + next(c.Den/8+1)
		c.LeafLow = next(c.RootLow)
		c.RootHigh = (c.Den+1)/2 + next(c.Den/4+1)
		c.LeafHigh = c.RootHigh + 1 + next(c.Den)
		if mayBe(c) {
			l = append(l, c)
		}
	}
	return l
}

// doublings is how often seg slots are doubled till they are size.
func doublings(seg, size int) int {
	height := 0
	for w := seg; w < size; w *= 2 {
		height++
	}
	return height
}

// capacities are all those of c, the least one first.
func capacities(c api.Config) []int {
	l := []int{c.Least}
	for size := c.Least; c.Most*c.Den > c.RootHigh*size; {
		size *= 2
		l = append(l, size)
	}
	return l
}

// capacityFor is the first of the capacities that takes n pairs.
func capacityFor(c api.Config, n int) int {
	for _, size := range capacities(c) {
		if n*c.Den <= c.RootHigh*size {
			return size
		}
	}
	panic("no capacity takes them")
}

// bounds are how many pairs a window of a height has at least, and at most.
type bounds struct {
	low, high int
}

// boundsOf are those of each height, in size slots of c, found by counting.
func boundsOf(c api.Config, size int) []bounds {
	top := doublings(c.Seg, size)
	var l []bounds
	for h, w := 0, c.Seg; h <= top; h, w = h+1, 2*w {
		upper, parts := w*(c.LeafHigh*(top-h)+c.RootHigh*h), top*c.Den
		if top == 0 {
			upper, parts = w*c.RootHigh, c.Den
		}
		b := bounds{}
		for (b.high+1)*parts <= upper {
			b.high++
		}
		for size > c.Least && (b.low+1)*parts < w*(c.LeafLow*(top-h)+c.RootLow*h) {
			b.low++
		}
		l = append(l, b)
	}
	return l
}

// plain is a gapped array told slot by slot, without words and counts; a slot that is not occupied is nil.
type plain struct {
	seg   int
	cells []*api.Pair
	laid  uint64
}

func empty(seg, size int, laid uint64) plain {
	return plain{seg, make([]*api.Pair, size), laid}
}

// packed packs p by the definition alone.
func (p plain) packed() api.Slots {
	n := len(p.cells)
	s := api.Slots{
		Seg:    p.seg,
		Words:  make([]uint64, n/64+min(n%64, 1)),
		Keys:   make([]int64, n),
		Vals:   make([]int64, n),
		Counts: make([]int, n/p.seg),
		Laid:   p.laid,
	}
	for at, x := range p.cells {
		if x != nil {
			s.Words[at/64] |= 1 << uint(at%64)
			s.Keys[at], s.Vals[at] = x.Key, x.Val
			s.Counts[at/p.seg]++
		}
	}
	return s
}

func (p plain) pairs(from, to int) []api.Pair {
	var l []api.Pair
	for _, x := range p.cells[from:to] {
		if x != nil {
			l = append(l, *x)
		}
	}
	return l
}

func (p plain) all() []api.Pair { return p.pairs(0, len(p.cells)) }

func (p plain) count(from, to int) int {
	n := 0
	for _, x := range p.cells[from:to] {
		if x != nil {
			n++
		}
	}
	return n
}

// slot is that of the pair k.
func (p plain) slot(k int) int {
	for at, x := range p.cells {
		if x != nil && k == 0 {
			return at
		}
		if x != nil {
			k--
		}
	}
	panic("no such pair")
}

// spread is p behind l were spread over the slots from from on, ahead of to: it goes from place to place by whole steps, and one more whenever what was left over fills a slot.
func (p plain) spread(from, to int, l []api.Pair) plain {
	p.cells = slices.Clone(p.cells)
	clear(p.cells[from:to])
	n, at, over := len(l), from, 0
	for _, x := range l {
		p.cells[at] = &x
		p.laid++
		at += (to - from) / n
		over += (to - from) % n
		if over >= n {
			at++
			over -= n
		}
	}
	return p
}

// inserted are l with x ahead of the k-th of them, one by one.
func inserted(l []api.Pair, k int, x api.Pair) []api.Pair {
	var all []api.Pair
	for i := range len(l) + 1 {
		if i == k {
			all = append(all, x)
		}
		if i < len(l) {
			all = append(all, l[i])
		}
	}
	return all
}

// around are the windows that have the slot at, from its segment up.
func (p plain) around(at int) [][2]int {
	var l [][2]int
	for w := p.seg; w <= len(p.cells); w *= 2 {
		from := 0
		for from+w <= at {
			from += w
		}
		l = append(l, [2]int{from, from + w})
	}
	return l
}

// way is how a step goes: the height of the highest window that is over (-1: none is), and that of all.
type way struct {
	over, top int
}

// put is p behind x was put as the pair k, and which way it went.
func (p plain) put(c api.Config, k int, x api.Pair) (plain, way) {
	l, at := p.all(), 0
	if len(l) > 0 {
		at = p.slot(max(k-1, 0))
	}
	windows, limits := p.around(at), boundsOf(c, len(p.cells))
	went := way{-1, len(windows) - 1}
	for h, w := range windows {
		if p.count(w[0], w[1])+1 > limits[h].high {
			went.over = h
		}
	}
	if went.over == went.top {
		size := capacityFor(c, len(l)+1)
		return empty(p.seg, size, p.laid).spread(0, size, inserted(l, k, x)), went
	}
	w := windows[went.over+1]
	return p.spread(w[0], w[1], inserted(p.pairs(w[0], w[1]), k-p.count(0, w[0]), x)), went
}

// take is p behind the pair k was taken, and which way it went.
func (p plain) take(c api.Config, k int) (plain, way) {
	at := p.slot(k)
	p.cells = slices.Clone(p.cells)
	p.cells[at] = nil
	windows, limits := p.around(at), boundsOf(c, len(p.cells))
	went := way{-1, len(windows) - 1}
	for h, w := range windows {
		if p.count(w[0], w[1]) < limits[h].low {
			went.over = h
		}
	}
	switch went.over {
	case -1:
		return p, went
	case went.top:
		l, size := p.all(), len(p.cells)/2
		for len(l) < boundsOf(c, size)[doublings(c.Seg, size)].low {
			size /= 2
		}
		return empty(p.seg, size, p.laid).spread(0, size, l), went
	}
	w := windows[went.over+1]
	return p.spread(w[0], w[1], p.pairs(w[0], w[1])), went
}

// load is an array of the capacity for as many as l, over which they are spread.
func (p plain) load(c api.Config, l []api.Pair) plain {
	size := capacityFor(c, len(l))
	return empty(p.seg, size, p.laid).spread(0, size, l)
}

// wrong are the windows that have too many pairs, or too few; of p whose slots are a capacity of c.
func (p plain) wrong(c api.Config) [][2]int {
	var l [][2]int
	limits := boundsOf(c, len(p.cells))
	var row []int
	for from := 0; from < len(p.cells); from += p.seg {
		row = append(row, p.count(from, from+p.seg))
	}
	for h, w := 0, p.seg; w <= len(p.cells); h, w = h+1, 2*w {
		for i, n := range row {
			if n < limits[h].low || n > limits[h].high {
				l = append(l, [2]int{i * w, (i + 1) * w})
			}
		}
		for i := range len(row) / 2 {
			row[i] = row[2*i] + row[2*i+1]
		}
		row = row[:len(row)/2]
	}
	return l
}

// numbers are keys and values: 0, the least and the greatest among them.
func numbers() []int64 {
	return []int64{0, 1, -1, 7, -7, 1 << 40, least, least + 1, greatest, greatest - 1}
}

// mixedPair is the i-th of some: keys come again and don't rise, values tell most of them apart.
func mixedPair(i int, next func(int) int) api.Pair {
	l := numbers()
	p := api.Pair{Key: l[next(len(l))], Val: int64(1000 + i)}
	if next(4) == 0 {
		p.Val = l[next(len(l))]
	}
	return p
}

// mixedPairs are n pairs that don't rise, with room behind them.
func mixedPairs(n int, seed uint64) []api.Pair {
	next := mixer(seed)
	l := make([]api.Pair, 0, n+3)
	for i := range n {
		l = append(l, mixedPair(i, next))
	}
	return l
}

// risingPairs are n pairs whose keys rise, 0 among them.
func risingPairs(n int) []api.Pair {
	l := make([]api.Pair, n)
	for i := range l {
		l[i] = api.Pair{Key: int64(3 * (i - n/2)), Val: int64(n - i)}
	}
	return l
}

// picked is from low to high, at the ends more often than amid.
func picked(low, high int, next func(int) int) int {
	switch next(3) {
	case 0:
		return low
	case 1:
		return high
	}
	return low + next(high-low+1)
}

// scattered is an array of c, of size slots with n pairs, as uneven as c lets it be.
func scattered(c api.Config, size, n int, next func(int) int) plain {
	p := empty(c.Seg, size, uint64(next(1000)))
	limits := boundsOf(c, size)
	var fill func(h, from, n int)
	fill = func(h, from, n int) {
		if h == 0 {
			p.occupy(from, n, next)
			return
		}
		b := limits[h-1]
		first := picked(max(b.low, n-b.high), min(b.high, n-b.low), next)
		fill(h-1, from, first)
		fill(h-1, from+c.Seg<<(h-1), n-first)
	}
	fill(len(limits)-1, 0, n)
	return p
}

// occupy lays n mixed pairs into the segment from from on: at its beginning, at its end, or anywhere.
func (p plain) occupy(from, n int, next func(int) int) {
	rule := next(3)
	for left, i := p.seg, 0; i < p.seg; left, i = left-1, i+1 {
		take := i < n
		switch rule {
		case 1:
			take = left <= n
		case 2:
			take = next(left) < n-p.count(from, from+p.seg)
		}
		if take {
			x := mixedPair(from+i, next)
			p.cells[from+i] = &x
		}
	}
}

// counts are numbers of pairs that size slots of c may have: the least ones, the most, and some between.
func counts(c api.Config, size int, next func(int) int) []int {
	limits := boundsOf(c, size)
	low, high := limits[len(limits)-1].low, min(limits[len(limits)-1].high, c.Most)
	l := []int{low, min(low+1, high), max(high-1, low), high}
	for range 3 {
		l = append(l, low+next(high-low+1))
	}
	return l
}

// everyArray hands on so many rounds of arrays of each capacity of each config, with room behind their lists, and asks behind it that the array is what it was.
func everyArray(t *testing.T, configs []api.Config, rounds int, do func(c api.Config, p plain, s api.Slots)) {
	t.Helper()
	for i, c := range configs {
		next := mixer(uint64(i) + 77)
		for _, size := range capacities(c) {
			for range rounds {
				for _, n := range counts(c, size, next) {
					p := scattered(c, size, n, next)
					s := p.packed()
					do(c, p, s)
					if !alike(s, p.packed()) {
						t.Fatalf("an array of %d slots of %v was turned", size, c)
					}
				}
			}
		}
	}
}

// someNumbers are places among n pairs: each of a few, and some of many.
func someNumbers(n int) []int {
	var l []int
	for k := range n + 1 {
		if n <= 70 || k <= 2 || k%17 == 5 || k == n/2 || k >= n-2 {
			l = append(l, k)
		}
	}
	return l
}

// badNumbers are no places among n pairs.
func badNumbers(n int) []int {
	return []int{-1, -2, -n - 1, n + 1, n + 2, 2*n + 1, api.MaxSlots + n + 1, 1<<32 + n, least, least + 1, greatest - 1, greatest}
}

// alike tells whether all of a and b is the same.
func alike(a, b api.Slots) bool {
	return a.Seg == b.Seg && a.Laid == b.Laid && slices.Equal(a.Words, b.Words) && slices.Equal(a.Keys, b.Keys) &&
		slices.Equal(a.Vals, b.Vals) && slices.Equal(a.Counts, b.Counts)
}

// roomy is s in lists with room behind them, into which a careless append would write.
func roomy(s api.Slots) api.Slots {
	s.Words = append(make([]uint64, 0, len(s.Words)+4), s.Words...)
	s.Keys = append(make([]int64, 0, len(s.Keys)+4), s.Keys...)
	s.Vals = append(make([]int64, 0, len(s.Vals)+4), s.Vals...)
	s.Counts = append(make([]int, 0, len(s.Counts)+4), s.Counts...)
	return s
}

// whole is s with the room behind its lists.
func whole(s api.Slots) api.Slots {
	s.Words, s.Keys = s.Words[:cap(s.Words)], s.Keys[:cap(s.Keys)]
	s.Vals, s.Counts = s.Vals[:cap(s.Vals)], s.Counts[:cap(s.Counts)]
	return s
}

// copied is s in new memory.
func copied(s api.Slots) api.Slots {
	s.Words, s.Keys = slices.Clone(s.Words), slices.Clone(s.Keys)
	s.Vals, s.Counts = slices.Clone(s.Vals), slices.Clone(s.Counts)
	return s
}

// turnAll turns each thing of the lists, and those of the room behind them.
func turnAll(s api.Slots) {
	turnEach(s.Words, allBits)
	turnEach(s.Keys, -1)
	turnEach(s.Vals, -1)
	turnEach(s.Counts, -1)
}

func turnEach[T uint64 | int64 | int](l []T, by T) {
	l = l[:cap(l)]
	for i := range l {
		l[i] ^= by
	}
}

func wantCheck(t *testing.T, c api.Config, s api.Slots, want api.Errno, why string) {
	t.Helper()
	if e := Check(c, s); e != want {
		t.Errorf("%s: Check(%v, %v) = %d; want %d", why, c, s, int(e), int(want))
	}
}

func wantSlots(t *testing.T, s api.Slots, e api.Errno, want plain, what string, args ...any) {
	t.Helper()
	if e != api.OK || !alike(s, want.packed()) {
		t.Errorf("%s%v = %v, %d; want %v", what, args, s, int(e), want.packed())
	}
}

// wantRefused asks for the error, and for nothing beside it.
func wantRefused(t *testing.T, s api.Slots, e, want api.Errno, what string, args ...any) {
	t.Helper()
	if e != want || !alike(s, api.Slots{}) {
		t.Errorf("%s%v = %v, %d; want nothing, %d", what, args, s, int(e), int(want))
	}
}

// wantAllRefused asks for the error of each call with s, whatever else is handed in.
func wantAllRefused(t *testing.T, c api.Config, s api.Slots, want api.Errno, why string) {
	t.Helper()
	wantCheck(t, c, s, want, why)
	for _, k := range []int{0, 1, len(s.Keys) / 2, len(s.Keys) + 1, -1, least, greatest} {
		got, e := Put(c, s, k, api.Pair{Key: 1, Val: 2})
		wantRefused(t, got, e, want, "Put", why, c, k, s)
		got, e = Take(c, s, k)
		wantRefused(t, got, e, want, "Take", why, c, k, s)
	}
	for _, n := range []int{0, 1, max(min(c.Most, 400), 0), max(min(c.Most, 400), 0) + 1} {
		got, e := Load(c, s, risingPairs(n))
		wantRefused(t, got, e, want, "Load", why, c, n, s)
	}
}
