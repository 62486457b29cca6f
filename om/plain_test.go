package om

import (
	"math"
	"slices"
	"testing"

	"shelfmark/api"
	"shelfmark/gap"
)

const (
	least    = math.MinInt
	greatest = math.MaxInt
	allBits  = ^uint64(0)
	// lastGen is the generation that no number is given out in.
	lastGen = 2147483647
	// mostNumbers is how many a table has at most.
	mostNumbers = 65536
)

// example is the config of chapter 5: one capacity, of height 2.
func example() api.Config {
	return api.Config{Tag: api.TagPma, Most: 8, Seg: 4, Least: 16, Den: 8, LeafLow: 0, RootLow: 1, RootHigh: 4, LeafHigh: 8}
}

// growing has the capacities 16 to 128, of heights 1 to 4; its segments are never too empty.
func growing() api.Config {
	return api.Config{Tag: api.TagCob, Most: 64, Seg: 8, Least: 16, Den: 8, LeafLow: 0, RootLow: 1, RootHigh: 4, LeafHigh: 8}
}

// fromFlat has the capacities 16 to 512, of heights 0 to 5; its segments may be too empty.
func fromFlat() api.Config {
	return api.Config{Tag: api.TagLog, Most: 200, Seg: 16, Least: 16, Den: 64, LeafLow: 7, RootLow: 8, RootHigh: 32, LeafHigh: 64}
}

// tilted is a config whose fractions don't go up in the slots; segments that are as full as they may be have room.
func tilted() api.Config {
	return api.Config{Tag: api.TagPma, Most: 150, Seg: 32, Least: 64, Den: 23, LeafLow: 1, RootLow: 2, RootHigh: 13, LeafHigh: 20}
}

// flat has one capacity, of height 0.
func flat() api.Config {
	return api.Config{Tag: api.TagCob, Most: 8, Seg: 16, Least: 16, Den: 8, LeafLow: 0, RootLow: 1, RootHigh: 4, LeafHigh: 5}
}

// single takes one handle.
func single() api.Config {
	return turned(example(), func(c *api.Config) { c.Most = 1 })
}

// widest has sizes at their limits.
func widest() api.Config {
	return api.Config{Tag: api.TagLog, Most: api.MaxMost, Seg: api.MaxSeg, Least: api.MaxLeast, Den: api.MaxDen, LeafLow: 3, RootLow: 8, RootHigh: 32, LeafHigh: 64}
}

// named are configs that differ in what may happen in them.
func named() []api.Config {
	return []api.Config{example(), growing(), fromFlat(), tilted(), flat(), single()}
}

// turned is c with one thing turned.
func turned(c api.Config, turn func(c *api.Config)) api.Config {
	turn(&c)
	return c
}

func mixer(seed uint64) func(below int) int {
	return func(below int) int {
		seed = seed*6364136223846793005 + 1442695040888963407
		return int(seed>>33) % below
	}
}

// seat is a slot, and the number that stands in it.
type seat struct {
	slot, number int
}

// plain is a list told seat by seat, in order, and of each number how often it was taken back. What stands where behind a step is asked of gap, whose matter it is; all else is told by plain means.
type plain struct {
	c           api.Config
	size        int
	seats       []seat
	gens        []int
	laid, moved uint64
}

func empty(c api.Config) plain {
	return plain{c: c, size: c.Least}
}

// loaded is a list of c with n handles, of numbers that fall along it, over the capacity for as many.
func loaded(c api.Config, n int) plain {
	l := make([]api.Pair, n)
	for i := range l {
		l[i].Key = int64(n - 1 - i)
	}
	s, e := gap.Load(c, empty(c).array(), l)
	if e != api.OK {
		panic("no such list")
	}
	p := empty(c).seated(s)
	p.gens = make([]int, n)
	return p
}

// array packs the seats by the definition alone.
func (p plain) array() api.Slots {
	s := api.Slots{
		Seg:    p.c.Seg,
		Words:  make([]uint64, p.size/64+min(p.size%64, 1)),
		Keys:   make([]int64, p.size),
		Vals:   make([]int64, p.size),
		Counts: make([]int, p.size/p.c.Seg),
		Laid:   p.laid,
	}
	for _, x := range p.seats {
		s.Words[x.slot/64] |= 1 << uint(x.slot%64)
		s.Keys[x.slot] = int64(x.number)
		s.Counts[x.slot/p.c.Seg]++
	}
	return s
}

// packed packs p by the definition alone.
func (p plain) packed() api.Order {
	return api.Order{Config: p.c, Slots: p.array(), Table: api.Handles{Gens: slices.Clone(p.gens), Ats: p.ats()}, Moved: p.moved}
}

// ats are where the numbers are: -1, if one stands nowhere.
func (p plain) ats() []int {
	l := slices.Repeat([]int{-1}, len(p.gens))
	for _, x := range p.seats {
		l[x.number] = x.slot
	}
	return l
}

// seated is p whose pairs are those of s.
func (p plain) seated(s api.Slots) plain {
	p.size, p.laid, p.seats = len(s.Keys), s.Laid, nil
	for at, key := range s.Keys {
		if s.Words[at/64]>>uint(at%64)&1 == 1 {
			p.seats = append(p.seats, seat{at, int(key)})
		}
	}
	return p
}

// handles are those of the list, in order.
func (p plain) handles() []api.Handle {
	var l []api.Handle
	for _, x := range p.seats {
		l = append(l, api.Handle{Number: x.number, Gen: p.gens[x.number]})
	}
	return l
}

// next is the number that is given out next: the least one that stands nowhere and has a generation left, or one behind all.
func (p plain) next() int {
	for number, at := range p.ats() {
		if at == -1 && p.gens[number] < lastGen {
			return number
		}
	}
	return len(p.gens)
}

// turnedFrom is how many numbers that were there in before stand elsewhere in p.
func (p plain) turnedFrom(before plain) uint64 {
	was := map[int]int{}
	for _, x := range before.seats {
		was[x.number] = x.slot
	}
	many := uint64(0)
	for _, x := range p.seats {
		if slot, had := was[x.number]; had && slot != x.slot {
			many++
		}
	}
	return many
}

// letIn is p with a new handle as the k-th, which it is, or why there is none.
func (p plain) letIn(k int) (plain, api.Handle, api.Errno) {
	number := p.next()
	if len(p.seats) == p.c.Most || number == mostNumbers {
		return plain{}, api.Handle{}, api.ErrFull
	}
	s, e := gap.Put(p.c, p.array(), k, api.Pair{Key: int64(number)})
	if e != api.OK {
		panic("a pair that gap doesn't put")
	}
	q := p.seated(s)
	if number == len(p.gens) {
		q.gens = append(slices.Clone(p.gens), 0)
	}
	q.moved += q.turnedFrom(p)
	return q, api.Handle{Number: number, Gen: q.gens[number]}, api.OK
}

// takeOut is p without its k-th handle.
func (p plain) takeOut(k int) plain {
	s, e := gap.Take(p.c, p.array(), k)
	if e != api.OK {
		panic("a pair that gap doesn't take")
	}
	q := p.seated(s)
	q.gens = slices.Clone(p.gens)
	q.gens[p.seats[k].number]++
	q.moved += q.turnedFrom(p)
	return q
}

// renumbered is p with other numbers, of any generations, and some that are free: such as may be given out again, and such as may not.
func (p plain) renumbered(free int, next func(int) int) plain {
	many := len(p.seats) + free
	numbers := make([]int, many)
	for i := range numbers {
		j := next(i + 1)
		numbers[i], numbers[j] = numbers[j], i
	}
	p.gens = make([]int, many)
	for i, number := range numbers {
		gens := []int{0, 1, next(1000), lastGen - 1, lastGen - 1 - next(9)}
		if i >= len(p.seats) {
			gens = append(gens, lastGen, lastGen)
		}
		p.gens[number] = gens[next(len(gens))]
	}
	p.seats = slices.Clone(p.seats)
	for i := range p.seats {
		p.seats[i].number = numbers[i]
	}
	p.moved = uint64(next(1000))
	return p
}

// worn is p with so many numbers in all, those that are free at the last generation.
func (p plain) worn(many int) plain {
	p.gens = slices.Clone(p.gens)
	for len(p.gens) < many {
		p.gens = append(p.gens, 0)
	}
	for number, at := range p.ats() {
		if at == -1 {
			p.gens[number] = lastGen
		}
	}
	return p
}

// places are rules by which a row goes: at the beginning, at the end, amid all, near one place, anywhere.
func places(next func(int) int) []func(n int) int {
	return []func(n int) int{
		func(int) int { return 0 },
		func(n int) int { return n - 1 },
		func(n int) int { return n / 2 },
		func(n int) int { return min(n-1, 5) },
		func(n int) int { return next(n) },
	}
}

// rows are lists of c, met along rows that fill it by each rule, and empty it by another one.
func rows(c api.Config, next func(int) int) []plain {
	l := []plain{empty(c)}
	rules := places(next)
	for i, come := range rules {
		p, leave := empty(c), rules[(2*i+1)%len(rules)]
		behind := func(q plain) {
			if q.size != p.size || met(len(p.seats), c, next) {
				l = append(l, p)
			}
			p = q
		}
		for n := range c.Most {
			q, _, _ := p.letIn(come(n + 1))
			behind(q)
		}
		for n := c.Most; n > 0; n-- {
			behind(p.takeOut(leave(n)))
		}
		l = append(l, p)
	}
	return l
}

// met tells whether a list with n handles on the way is asked for more: the ends, and some between; those whose capacity a step turns are beside them.
func met(n int, c api.Config, next func(int) int) bool {
	return n < 2 || n > c.Most-2 || next(c.Most) < 6
}

// everyList hands on lists of each config, as rows leave them, and with other numbers; and asks behind it that they are what they were.
func everyList(t *testing.T, configs []api.Config, do func(p plain, o api.Order)) {
	t.Helper()
	for i, c := range configs {
		next := mixer(uint64(i) + 15)
		for _, p := range rows(c, next) {
			for _, p := range []plain{p, p.renumbered(0, next), p.renumbered(1+next(9), next)} {
				o := p.packed()
				do(p, o)
				if !alike(o, p.packed()) {
					t.Fatalf("a list of %d handles of %v was turned", len(p.seats), c)
				}
			}
		}
	}
}

// someOf are each of a few handles, and some of many.
func someOf(l []api.Handle) []api.Handle {
	var some []api.Handle
	for k, h := range l {
		if len(l) <= 12 || k <= 1 || k%23 == 5 || k == len(l)/2 || k >= len(l)-2 {
			some = append(some, h)
		}
	}
	return some
}

// strangers are handles that are none of p's: of numbers that are none, of other generations, of numbers that are free.
func (p plain) strangers() []api.Handle {
	l := []api.Handle{{Number: -1}, {Number: least, Gen: least}, {Number: len(p.gens)}, {Number: len(p.gens), Gen: 1}, {Number: greatest, Gen: greatest}, {Number: mostNumbers}}
	for _, h := range someOf(p.handles()) {
		for _, gen := range []int{h.Gen - 1, h.Gen + 1, -h.Gen - 1, least, greatest, lastGen} {
			l = append(l, api.Handle{Number: h.Number, Gen: gen})
		}
	}
	for number, at := range p.ats() {
		if at == -1 && (number < 40 || number > len(p.gens)-3) {
			l = append(l, api.Handle{Number: number, Gen: p.gens[number]}, api.Handle{Number: number, Gen: p.gens[number] - 1}, api.Handle{Number: number})
		}
	}
	return l
}

// alike tells whether all of a and b is the same.
func alike(a, b api.Order) bool {
	return a.Config.Tag == b.Config.Tag && slices.Equal(numbersOf(a.Config), numbersOf(b.Config)) && a.Moved == b.Moved &&
		a.Slots.Seg == b.Slots.Seg && a.Slots.Laid == b.Slots.Laid && slices.Equal(a.Slots.Words, b.Slots.Words) &&
		slices.Equal(a.Slots.Keys, b.Slots.Keys) && slices.Equal(a.Slots.Vals, b.Slots.Vals) && slices.Equal(a.Slots.Counts, b.Slots.Counts) &&
		slices.Equal(a.Table.Gens, b.Table.Gens) && slices.Equal(a.Table.Ats, b.Table.Ats)
}

func numbersOf(c api.Config) []int {
	return []int{c.Most, c.Seg, c.Least, c.Den, c.LeafLow, c.RootLow, c.RootHigh, c.LeafHigh}
}

// fields are the numbers of c.
func fields(c *api.Config) []*int {
	return []*int{&c.Most, &c.Seg, &c.Least, &c.Den, &c.LeafLow, &c.RootLow, &c.RootHigh, &c.LeafHigh}
}

// remade is o with what the three make of its lists.
func remade(o api.Order, words func([]uint64) []uint64, keys func([]int64) []int64, ints func([]int) []int) api.Order {
	o.Slots.Words = words(o.Slots.Words)
	o.Slots.Keys, o.Slots.Vals = keys(o.Slots.Keys), keys(o.Slots.Vals)
	o.Slots.Counts = ints(o.Slots.Counts)
	o.Table.Gens, o.Table.Ats = ints(o.Table.Gens), ints(o.Table.Ats)
	return o
}

type number interface{ uint64 | int64 | int }

func anew[T number](l []T) []T { return append([]T{}, l...) }

func withRoom[T number](l []T) []T { return append(anew(l), 5, 0, 7, 1)[:len(l)] }

func toItsEnd[T number](l []T) []T { return l[:cap(l)] }

func turnEach[T number](l []T) []T {
	for i := range l[:cap(l)] {
		l[:cap(l)][i] ^= 1<<62 | 3
	}
	return l
}

// copied is o in new memory.
func copied(o api.Order) api.Order { return remade(o, anew[uint64], anew[int64], anew[int]) }

// roomy is o in lists with room behind them, in which something stands.
func roomy(o api.Order) api.Order { return remade(o, withRoom[uint64], withRoom[int64], withRoom[int]) }

// whole is o with the room behind its lists.
func whole(o api.Order) api.Order { return remade(o, toItsEnd[uint64], toItsEnd[int64], toItsEnd[int]) }

// turnAll turns each thing of the lists, and those of the room behind them.
func turnAll(o api.Order) { remade(o, turnEach[uint64], turnEach[int64], turnEach[int]) }

func wantCheck(t *testing.T, o api.Order, want api.Errno, why string, args ...any) {
	t.Helper()
	if e := Check(o); e != want {
		t.Errorf("%s%v: Check(%v) = %d; want %d", why, args, o, int(e), int(want))
	}
}

func wantOrder(t *testing.T, o api.Order, e api.Errno, want plain, what string, args ...any) {
	t.Helper()
	if e != api.OK || !alike(o, want.packed()) {
		t.Errorf("%s%v = %v, %d; want %v", what, args, o, int(e), want.packed())
	}
}

// wantNone asks for the error, and for nothing beside it.
func wantNone(t *testing.T, o api.Order, e, want api.Errno, what string, args ...any) {
	t.Helper()
	if e != want || !alike(o, api.Order{}) {
		t.Errorf("%s%v = %v, %d; want nothing, %d", what, args, o, int(e), int(want))
	}
}

// wantNew asks for what letting in a handle answers: a list and the handle, or the error alone.
func wantNew(t *testing.T, got api.Order, h api.Handle, e api.Errno, want plain, wantH api.Handle, wantE api.Errno, what string, args ...any) {
	t.Helper()
	if h != wantH {
		t.Errorf("%s%v: the handle is %v; want %v", what, args, h, wantH)
	}
	if wantE != api.OK {
		wantNone(t, got, e, wantE, what, args...)
		return
	}
	wantOrder(t, got, e, want, what, args...)
}

// wantLabel asks for a label, or for the error and nothing beside it.
func wantLabel(t *testing.T, o api.Order, h api.Handle, want int, wantE api.Errno) {
	t.Helper()
	if at, e := Label(o, h); at != want || e != wantE {
		t.Errorf("Label(%v, %v) = %d, %d; want %d, %d", o, h, at, int(e), want, int(wantE))
	}
}

// wantCompare asks how two handles stand, or for the error and nothing beside it.
func wantCompare(t *testing.T, o api.Order, a, b api.Handle, want int, wantE api.Errno) {
	t.Helper()
	if n, e := Compare(o, a, b); n != want || e != wantE {
		t.Errorf("Compare(%v, %v, %v) = %d, %d; want %d, %d", o, a, b, n, int(e), want, int(wantE))
	}
}

// wantStranger asks for the error of each call that is asked of h; known is a handle that the list has, if it has one.
func wantStranger(t *testing.T, o api.Order, h, known api.Handle, want api.Errno) {
	t.Helper()
	wantLabel(t, o, h, 0, want)
	for _, two := range [][2]api.Handle{{h, h}, {h, known}, {known, h}} {
		wantCompare(t, o, two[0], two[1], 0, want)
	}
	got, new, e := After(o, h)
	wantNew(t, got, new, e, plain{}, api.Handle{}, want, "After", h)
	got, new, e = Before(o, h)
	wantNew(t, got, new, e, plain{}, api.Handle{}, want, "Before", h)
	got, e = Delete(o, h)
	wantNone(t, got, e, want, "Delete", h)
}

// wantRefused asks for the error of each call with o, whatever handle is asked.
func wantRefused(t *testing.T, o api.Order, want api.Errno, why string, args ...any) {
	t.Helper()
	wantCheck(t, o, want, why, args...)
	if l, e := List(o); len(l) > 0 || e != want {
		t.Errorf("%s%v: List(%v) = %v, %d; want none, %d", why, args, o, l, int(e), int(want))
	}
	got, h, e := First(o)
	wantNew(t, got, h, e, plain{}, api.Handle{}, want, "First", why, args)
	l := []api.Handle{{}, {Number: -1}, {Number: len(o.Table.Gens)}, {Number: least, Gen: greatest}}
	for number, gen := range o.Table.Gens {
		if number < 2 || number == len(o.Table.Gens)-1 {
			l = append(l, api.Handle{Number: number, Gen: gen})
		}
	}
	for i, h := range l {
		wantStranger(t, o, h, l[len(l)-1-i], want)
	}
}
