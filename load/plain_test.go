package load

import (
	"maps"
	"math"
	"slices"
	"testing"

	"shelfmark/api"
)

const (
	least    = math.MinInt64
	greatest = math.MaxInt64
	allBits  = ^uint64(0)
)

// example is the config of chapter 5: one capacity, of height 2.
func example() api.Config {
	return api.Config{Tag: api.TagPma, Most: 8, Seg: 4, Least: 16, Den: 8, LeafLow: 0, RootLow: 1, RootHigh: 4, LeafHigh: 8}
}

// growing has the capacities 16 to 128, of heights 1 to 4; its segments are never too empty.
func growing() api.Config {
	return api.Config{Tag: api.TagCob, Most: 64, Seg: 8, Least: 16, Den: 8, LeafLow: 0, RootLow: 1, RootHigh: 4, LeafHigh: 8}
}

// fromFlat has the capacities 16 to 1,024, of heights 0 to 6; its segments may be too empty.
func fromFlat() api.Config {
	return api.Config{Tag: api.TagLog, Most: 500, Seg: 16, Least: 16, Den: 64, LeafLow: 7, RootLow: 8, RootHigh: 32, LeafHigh: 64}
}

// tilted is a config whose fractions don't go up in the slots; segments that are as full as they may be have room.
func tilted() api.Config {
	return api.Config{Tag: api.TagPma, Most: 300, Seg: 32, Least: 64, Den: 23, LeafLow: 1, RootLow: 2, RootHigh: 13, LeafHigh: 20}
}

// flat has one capacity, of height 0.
func flat() api.Config {
	return api.Config{Tag: api.TagCob, Most: 8, Seg: 16, Least: 16, Den: 8, LeafLow: 0, RootLow: 1, RootHigh: 4, LeafHigh: 5}
}

// widest has sizes at their limits, the greatest capacity (32,768) among them.
func widest() api.Config {
	return api.Config{Tag: api.TagLog, Most: api.MaxMost, Seg: api.MaxSeg, Least: api.MaxLeast, Den: api.MaxDen, LeafLow: 3, RootLow: 8, RootHigh: 32, LeafHigh: 64}
}

// named are configs that differ in what may happen in them.
func named() []api.Config {
	return []api.Config{example(), growing(), fromFlat(), tilted(), flat()}
}

func mixer(seed uint64) func(below int) int {
	return func(below int) int {
		seed = seed*6364136223846793005 + 1442695040888963407
		return int(seed>>33) % below
	}
}

// mayBe tells whether a config of the form that mixedConfigs makes may be.
func mayBe(c api.Config) bool {
	height := doublings(c.Seg, c.Least)
	for size := c.Least; c.Most*c.Den > c.RootHigh*size; size *= 2 {
		height++
	}
	return c.Most <= api.MaxMost && c.Least <= api.MaxLeast && c.LeafLow < c.RootLow && 8*c.RootLow <= c.Den && c.RootLow*c.Least >= 2*c.Den &&
		2*c.RootHigh >= c.Den && c.LeafHigh <= c.Den && (c.LeafHigh-c.RootHigh)*c.Seg >= c.Den*height
}

// mixedConfigs are n configs that may be, from all over what may be, with at most so many pairs.
func mixedConfigs(n, most int, seed uint64) []api.Config {
	next := mixer(seed)
	var l []api.Config
	for len(l) < n {
		c := api.Config{Tag: uint8(1 + next(3)), Most: 1 + next(most), Seg: 4 << next(5), Den: 1 + next(64)}
		c.Least = c.Seg << next(7)
		c.RootLow = 1 + next(c.Den/8+1)
		c.LeafLow = next(c.RootLow)
		c.RootHigh = (c.Den+1)/2 + next(c.Den/4+1)
		c.LeafHigh = c.RootHigh + 1 + next(c.Den)
		if mayBe(c) {
			l = append(l, c)
		}
	}
	return l
}

// doublings is how often seg slots are doubled till they are size.
func doublings(seg, size int) int {
	height := 0
	for w := seg; w < size; w *= 2 {
		height++
	}
	return height
}

// capacities are all those of c, the least one first.
func capacities(c api.Config) []int {
	l := []int{c.Least}
	for size := c.Least; c.Most*c.Den > c.RootHigh*size; {
		size *= 2
		l = append(l, size)
	}
	return l
}

// capacityFor is the first of the capacities that takes n pairs.
func capacityFor(c api.Config, n int) int {
	for _, size := range capacities(c) {
		if n*c.Den <= c.RootHigh*size {
			return size
		}
	}
	panic("no capacity takes them")
}

// bounds are how many pairs a window of a height has at least, and at most.
type bounds struct {
	low, high int
}

// boundsOf are those of each height, in size slots of c, found by counting.
func boundsOf(c api.Config, size int) []bounds {
	top := doublings(c.Seg, size)
	var l []bounds
	for h, w := 0, c.Seg; h <= top; h, w = h+1, 2*w {
		upper, parts := w*(c.LeafHigh*(top-h)+c.RootHigh*h), top*c.Den
		if top == 0 {
			upper, parts = w*c.RootHigh, c.Den
		}
		b := bounds{}
		for (b.high+1)*parts <= upper {
			b.high++
		}
		for size > c.Least && (b.low+1)*parts < w*(c.LeafLow*(top-h)+c.RootLow*h) {
			b.low++
		}
		l = append(l, b)
	}
	return l
}

// array is a gapped array told slot by slot, without words and counts; a slot that is not occupied is nil.
type array struct {
	seg   int
	cells []*api.Pair
	laid  uint64
}

func empty(seg, size int, laid uint64) array {
	return array{seg, make([]*api.Pair, size), laid}
}

// packed packs p by the definition alone.
func (p array) packed() api.Slots {
	n := len(p.cells)
	s := api.Slots{
		Seg:    p.seg,
		Words:  make([]uint64, n/64+min(n%64, 1)),
		Keys:   make([]int64, n),
		Vals:   make([]int64, n),
		Counts: make([]int, n/p.seg),
		Laid:   p.laid,
	}
	for at, x := range p.cells {
		if x != nil {
			s.Words[at/64] |= 1 << uint(at%64)
			s.Keys[at], s.Vals[at] = x.Key, x.Val
			s.Counts[at/p.seg]++
		}
	}
	return s
}

func (p array) pairs(from, to int) []api.Pair {
	var l []api.Pair
	for _, x := range p.cells[from:to] {
		if x != nil {
			l = append(l, *x)
		}
	}
	return l
}

func (p array) all() []api.Pair { return p.pairs(0, len(p.cells)) }

func (p array) count(from, to int) int { return len(p.pairs(from, to)) }

// slot is that of the pair k.
func (p array) slot(k int) int {
	for at, x := range p.cells {
		if x != nil && k == 0 {
			return at
		}
		if x != nil {
			k--
		}
	}
	panic("no such pair")
}

// spread is p behind l were spread over the slots from from on, ahead of to: it goes from place to place by whole steps, and one more whenever what was left over fills a slot.
func (p array) spread(from, to int, l []api.Pair) array {
	p.cells = slices.Clone(p.cells)
	clear(p.cells[from:to])
	n, at, over := len(l), from, 0
	for _, x := range l {
		p.cells[at] = &x
		p.laid++
		at += (to - from) / n
		over += (to - from) % n
		if over >= n {
			at++
			over -= n
		}
	}
	return p
}

// with is p with the key of its k-th pair another one.
func (p array) with(k int, key int64) array {
	p.cells = slices.Clone(p.cells)
	at := p.slot(k)
	p.cells[at] = &api.Pair{Key: key, Val: p.cells[at].Val}
	return p
}

// plain is a map told by its config and its slots.
type plain struct {
	c api.Config
	array
}

func (m plain) packed() api.Pma { return api.Pma{Config: m.c, Slots: m.array.packed()} }

// wrong are the windows that have too many pairs, or too few; of m whose slots are a capacity of its config.
func (m plain) wrong() [][2]int {
	var l [][2]int
	for h, b := range boundsOf(m.c, len(m.cells)) {
		w := m.seg << h
		for from := 0; from < len(m.cells); from += w {
			if n := m.count(from, from+w); n < b.low || n > b.high {
				l = append(l, [2]int{from, from + w})
			}
		}
	}
	return l
}

// keyRules are lists of n keys that rise: side by side, apart, below 0, from the least number on, up to the greatest one, with both, and by mixed steps.
func keyRules() []func(n int) []int64 {
	from := func(first func(n int) int64, step func(i, n int) int64) func(int) []int64 {
		return func(n int) []int64 {
			l := make([]int64, n)
			key := first(n)
			for i := range l {
				l[i] = key
				key += step(i, n)
			}
			return l
		}
	}
	threes := func(int, int) int64 { return 3 }
	return []func(n int) []int64{
		from(func(n int) int64 { return int64(-3 * (n / 2)) }, threes),
		from(func(n int) int64 { return int64(-n / 2) }, func(int, int) int64 { return 1 }),
		from(func(n int) int64 { return int64(-3 * n) }, threes),
		from(func(int) int64 { return least }, threes),
		from(func(n int) int64 { return greatest - 3*int64(max(n, 1)-1) }, threes),
		from(func(int) int64 { return 1 }, func(i, n int) int64 { return int64(1 + (i*i+n)%5) }),
		from(func(int) int64 { return least }, func(i, n int) int64 { return greatest/int64(n)*2 - int64(i%9) }),
		func(n int) []int64 {
			l := from(func(n int) int64 { return int64(-n) }, threes)(n)
			if n > 1 {
				l[0], l[n-1] = least, greatest
			}
			return l
		},
	}
}

// valOf is a value for a pair: any numbers, the ends and 0 among them.
func valOf(i int, next func(int) int) int64 {
	l := []int64{0, least, greatest, -1, 1}
	if next(4) == 0 {
		return l[next(len(l))]
	}
	return int64(1000 + i)
}

// risingPairs are n pairs whose keys rise by the rule.
func risingPairs(keys []int64, next func(int) int) []api.Pair {
	l := make([]api.Pair, len(keys))
	for i, key := range keys {
		l[i] = api.Pair{Key: key, Val: valOf(i, next)}
	}
	return l
}

// threes are n pairs, three apart.
func threes(n int) []api.Pair { return risingPairs(keyRules()[0](n), mixer(uint64(n))) }

// picked is from low to high, at the ends more often than amid.
func picked(low, high int, next func(int) int) int {
	switch next(3) {
	case 0:
		return low
	case 1:
		return high
	}
	return low + next(high-low+1)
}

// scattered is a map of c, of size slots with n pairs, as uneven as c lets it be; its keys are those of a rule.
func scattered(c api.Config, size, n int, next func(int) int) plain {
	p := empty(c.Seg, size, uint64(next(1000)))
	limits := boundsOf(c, size)
	var fill func(h, from, n int)
	fill = func(h, from, n int) {
		if h == 0 {
			p.occupy(from, n, next)
			return
		}
		b := limits[h-1]
		first := picked(max(b.low, n-b.high), min(b.high, n-b.low), next)
		fill(h-1, from, first)
		fill(h-1, from+c.Seg<<(h-1), n-first)
	}
	fill(len(limits)-1, 0, n)
	rules := keyRules()
	l := risingPairs(rules[next(len(rules))](n), next)
	for _, x := range p.cells {
		if x != nil {
			*x, l = l[0], l[1:]
		}
	}
	return plain{c, p}
}

// occupy occupies n slots of the segment from from on: at its beginning, at its end, or anywhere.
func (p array) occupy(from, n int, next func(int) int) {
	rule, taken := next(3), 0
	for left, i := p.seg, 0; i < p.seg; left, i = left-1, i+1 {
		take := i < n
		switch rule {
		case 1:
			take = left <= n
		case 2:
			take = next(left) < n-taken
		}
		if take {
			p.cells[from+i] = &api.Pair{}
			taken++
		}
	}
}

// counts are numbers of pairs that size slots of c may have: the least ones, the most, and some between.
func counts(c api.Config, size int, next func(int) int) []int {
	limits := boundsOf(c, size)
	low, high := limits[len(limits)-1].low, min(limits[len(limits)-1].high, c.Most)
	l := []int{low, min(low+1, high), max(high-1, low), high}
	for range 3 {
		l = append(l, low+next(high-low+1))
	}
	return l
}

// everyMap hands on so many rounds of maps of each capacity of each config, and asks behind it that the map is what it was.
func everyMap(t *testing.T, configs []api.Config, rounds int, do func(p plain, m api.Pma)) {
	t.Helper()
	for i, c := range configs {
		next := mixer(uint64(i) + 77)
		for _, size := range capacities(c) {
			for range rounds {
				for _, n := range counts(c, size, next) {
					p := scattered(c, size, n, next)
					m := p.packed()
					do(p, m)
					if !alike(m, p.packed()) {
						t.Fatalf("a map of %d slots of %v was turned", size, c)
					}
				}
			}
		}
	}
}

// someOf are each of a few keys, and some of many.
func someOf(keys []int64) []int64 {
	var l []int64
	n := len(keys)
	for k, key := range keys {
		if n <= 40 || k <= 1 || k%23 == 5 || k == n/2 || k >= n-2 {
			l = append(l, key)
		}
	}
	return l
}

func keysOf(l []api.Pair) []int64 {
	var keys []int64
	for _, x := range l {
		keys = append(keys, x.Key)
	}
	return keys
}

// beside are each of the keys, those one beside it, and the least, the greatest and the middle number, in order.
func beside(keys []int64) []int64 {
	l := []int64{least, -1, 0, 1, greatest}
	for _, key := range keys {
		l = append(l, key)
		if key > least {
			l = append(l, key-1)
		}
		if key < greatest {
			l = append(l, key+1)
		}
	}
	slices.Sort(l)
	return slices.Compact(l)
}

// alike tells whether all of a and b is the same.
func alike(a, b api.Pma) bool {
	return alikeConfigs(a.Config, b.Config) && alikeSlots(a.Slots, b.Slots)
}

func alikeConfigs(a, b api.Config) bool {
	return a.Tag == b.Tag && slices.Equal(numbersOf(a), numbersOf(b))
}

func numbersOf(c api.Config) []int {
	return []int{c.Most, c.Seg, c.Least, c.Den, c.LeafLow, c.RootLow, c.RootHigh, c.LeafHigh}
}

func alikeSlots(a, b api.Slots) bool {
	return a.Seg == b.Seg && a.Laid == b.Laid && slices.Equal(a.Words, b.Words) && slices.Equal(a.Keys, b.Keys) &&
		slices.Equal(a.Vals, b.Vals) && slices.Equal(a.Counts, b.Counts)
}

// roomy is m in lists with room behind them, in which something stands.
func roomy(m api.Pma) api.Pma {
	s := &m.Slots
	s.Words = append(s.Words, allBits, 5, 0)[:len(s.Words)]
	s.Keys = append(s.Keys, 7, least, 7, greatest, 0)[:len(s.Keys)]
	s.Vals = append(s.Vals, 1, 2, 3)[:len(s.Vals)]
	s.Counts = append(s.Counts, 1, 2, 3)[:len(s.Counts)]
	return m
}

// whole is m with the room behind its lists.
func whole(m api.Pma) api.Pma {
	s := &m.Slots
	s.Words, s.Keys = s.Words[:cap(s.Words)], s.Keys[:cap(s.Keys)]
	s.Vals, s.Counts = s.Vals[:cap(s.Vals)], s.Counts[:cap(s.Counts)]
	return m
}

// copied is m in new memory.
func copied(m api.Pma) api.Pma {
	s := &m.Slots
	s.Words, s.Keys = slices.Clone(s.Words), slices.Clone(s.Keys)
	s.Vals, s.Counts = slices.Clone(s.Vals), slices.Clone(s.Counts)
	return m
}

// turnAll turns each thing of the lists, and those of the room behind them.
func turnAll(m api.Pma) {
	turnEach(m.Slots.Words, allBits)
	turnEach(m.Slots.Keys, -1)
	turnEach(m.Slots.Vals, -1)
	turnEach(m.Slots.Counts, -1)
}

func turnEach[T uint64 | int64 | int](l []T, by T) {
	l = l[:cap(l)]
	for i := range l {
		l[i] ^= by
	}
}

// anew is p with l, laid anew: nothing of its slots stays, and its ledger goes on by each pair.
func (p plain) anew(l []api.Pair) plain {
	size := capacityFor(p.c, len(l))
	return plain{p.c, empty(p.c.Seg, size, p.laid).spread(0, size, l)}
}

// loaded is a map of c with l, laid anew.
func loaded(c api.Config, l []api.Pair) plain {
	return plain{c: c}.anew(l)
}

// without are the pairs of p but those from from up to to.
func (p plain) without(from, to int64) []api.Pair {
	var l []api.Pair
	for _, x := range p.all() {
		if x.Key < from || x.Key > to {
			l = append(l, x)
		}
	}
	return l
}

// together are the pairs of both lists, those of the second over those of the first; told by a table of values.
func together(a, b []api.Pair) []api.Pair {
	vals := map[int64]int64{}
	for _, l := range [][]api.Pair{a, b} {
		for _, x := range l {
			vals[x.Key] = x.Val
		}
	}
	var l []api.Pair
	for _, key := range slices.Sorted(maps.Keys(vals)) {
		l = append(l, api.Pair{Key: key, Val: vals[key]})
	}
	return l
}

// rising tells whether the keys of l are those that they are in order, each once.
func rising(l []api.Pair) bool {
	keys := keysOf(l)
	return slices.Equal(keys, slices.Compact(slices.Sorted(slices.Values(keys))))
}

func wantMap(t *testing.T, m api.Pma, e api.Errno, want plain, what string, args ...any) {
	t.Helper()
	if e != api.OK || !alike(m, want.packed()) {
		t.Errorf("%s%v = %v, %d; want %v", what, args, m, int(e), want.packed())
	}
}

// wantRefused asks for the error, and for nothing beside it.
func wantRefused(t *testing.T, m api.Pma, e, want api.Errno, what string, args ...any) {
	t.Helper()
	if e != want || !alike(m, api.Pma{}) {
		t.Errorf("%s%v = %v, %d; want nothing, %d", what, args, m, int(e), int(want))
	}
}

// wantLoad loads l into m, which is p.
func wantLoad(t *testing.T, p plain, m api.Pma, l []api.Pair) {
	t.Helper()
	got, e := Load(m, l)
	switch {
	case !rising(l):
		wantRefused(t, got, e, api.ErrOrder, "Load", p.c, l)
	case len(l) > p.c.Most:
		wantRefused(t, got, e, api.ErrFull, "Load", p.c, len(l))
	default:
		wantMap(t, got, e, p.anew(l), "Load", p.c, l)
	}
}

func wantPairs(t *testing.T, m api.Pma, want []api.Pair, why string) {
	t.Helper()
	if l, e := Pairs(m); e != api.OK || !slices.Equal(l, want) {
		t.Errorf("%s: Pairs(%v) = %v, %d; want %v", why, m, l, int(e), want)
	}
}

func wantRebuild(t *testing.T, p plain, m api.Pma) {
	t.Helper()
	got, e := Rebuild(m)
	wantMap(t, got, e, p.anew(p.all()), "Rebuild", m)
}

// wantRange takes the keys from from up to to out of m, which is p, and answers how many they are.
func wantRange(t *testing.T, p plain, m api.Pma, from, to int64) int {
	t.Helper()
	got, n, e := Range(m, from, to)
	l := p.without(from, to)
	want := len(p.all()) - len(l)
	wantMap(t, got, e, p.anew(l), "Range", from, to, p.c)
	if n != want {
		t.Errorf("Range of %d to %d of %v: %d; want %d", from, to, m, n, want)
	}
	return want
}

// wantMerge puts the pairs of q into p.
func wantMerge(t *testing.T, p, q plain) api.Errno {
	t.Helper()
	got, e := Merge(p.packed(), q.packed())
	l := together(p.all(), q.all())
	if len(l) > p.c.Most {
		wantRefused(t, got, e, api.ErrFull, "Merge", p.c, len(l))
		return api.ErrFull
	}
	wantMap(t, got, e, p.anew(l), "Merge", p.all(), q.all())
	return api.OK
}

// wantAllRefused asks for the error of each call with m, whatever else is asked.
func wantAllRefused(t *testing.T, m api.Pma, want api.Errno, why string) {
	t.Helper()
	if l, e := Pairs(m); e != want || len(l) > 0 {
		t.Errorf("%s: Pairs(%v) = %v, %d; want none, %d", why, m, l, int(e), int(want))
	}
	got, e := Rebuild(m)
	wantRefused(t, got, e, want, "Rebuild", why, m)
	for _, l := range [][]api.Pair{nil, {{Key: 1, Val: 2}}, {{Key: 1}, {Key: 1}}, {{Key: 2}, {Key: -1}}, threes(70)} {
		got, e = Load(m, l)
		wantRefused(t, got, e, want, "Load", why, m, l)
	}
	for _, ends := range [][2]int64{{least, greatest}, {0, 0}, {5, -5}, {greatest, least}} {
		got, n, e := Range(m, ends[0], ends[1])
		wantRefused(t, got, e, want, "Range", why, m, ends)
		if n != 0 {
			t.Errorf("%s: Range(%v, %v) = %d; want 0", why, m, ends, n)
		}
	}
	wantMergeRefused(t, m, want, why)
}

// wantMergeRefused asks for the error of Merge, m being the first map, whatever the other one is, or the other one of a map that may be, however full that is.
func wantMergeRefused(t *testing.T, m api.Pma, want api.Errno, why string) {
	t.Helper()
	full := loaded(growing(), threes(64))
	for _, o := range []api.Pma{
		{}, m, full.packed(), loaded(example(), nil).packed(), plain{full.c, full.with(5, least)}.packed(),
		{Config: full.c}, {Config: badConfigs()["half"], Slots: full.array.packed()},
	} {
		got, e := Merge(m, o)
		wantRefused(t, got, e, want, "Merge", why, m, o)
	}
	for _, p := range []plain{full, loaded(example(), nil), loaded(flat(), threes(3))} {
		got, e := Merge(p.packed(), m)
		wantRefused(t, got, e, want, "Merge of a bad second one", why, m)
	}
}
