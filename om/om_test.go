package om

import (
	"cmp"
	"slices"
	"testing"

	"shelfmark/api"
)

// told is what a list has, told slot by slot.
func told(slots, ats, gens []int, laid, moved uint64) api.Order {
	o := api.Order{Config: example(), Table: api.Handles{Gens: gens, Ats: ats}, Moved: moved}
	o.Slots = api.Slots{Seg: 4, Words: []uint64{0}, Keys: make([]int64, 16), Vals: make([]int64, 16), Counts: make([]int, 4), Laid: laid}
	for at, number := range slots {
		if number >= 0 {
			o.Slots.Words[0] |= 1 << at
			o.Slots.Keys[at] = int64(number)
			o.Slots.Counts[at/4]++
		}
	}
	return o
}

func wantTold(t *testing.T, o api.Order, e api.Errno, want api.Order, what string) {
	t.Helper()
	if e != api.OK || !alike(o, want) {
		t.Errorf("%s: %v, %d; want %v", what, o, int(e), want)
	}
}

func TestExamples(t *testing.T) {
	o, e := New(example())
	wantTold(t, o, e, told(nil, nil, nil, 0, 0), "New")
	o, first, e := First(o)
	wantTold(t, o, e, told([]int{0}, []int{0}, []int{0}, 1, 0), "First")
	o, second, e := After(o, first)
	wantTold(t, o, e, told([]int{0, -1, 1}, []int{0, 2}, []int{0, 0}, 3, 0), "After 0")
	o, third, e := Before(o, second)
	wantTold(t, o, e, told([]int{0, 2, 1}, []int{0, 2, 1}, []int{0, 0, 0}, 6, 0), "Before 1")
	if first != (api.Handle{Number: 0}) || second != (api.Handle{Number: 1}) || third != (api.Handle{Number: 2}) {
		t.Errorf("the handles are %v, %v, %v", first, second, third)
	}
	if l, e := List(o); e != api.OK || !slices.Equal(l, []api.Handle{first, third, second}) {
		t.Errorf("List: %v, %d", l, int(e))
	}
	wantCompare(t, o, third, second, -1, api.OK)
	o, e = Delete(o, third)
	wantTold(t, o, e, told([]int{0, -1, 1}, []int{0, 2, -1}, []int{0, 0, 1}, 6, 0), "Delete of 2")
	if l, e := List(o); e != api.OK || !slices.Equal(l, []api.Handle{first, second}) {
		t.Errorf("List: %v, %d", l, int(e))
	}
	wantLabel(t, o, third, 0, api.ErrHandle)
}

// P15.3: a row told slot by slot: two labels are turned as a handle comes ahead of them, none as one comes behind, and three as a segment is full.
func TestRowByHand(t *testing.T) {
	o := told([]int{0, -1, 1}, []int{0, 2, -1}, []int{0, 0, 1}, 6, 0)
	zero, again := api.Handle{Number: 0}, api.Handle{Number: 2, Gen: 1}
	o, h, e := First(o)
	wantTold(t, o, e, told([]int{2, 0, 1}, []int{1, 2, 0}, []int{0, 0, 1}, 9, 1), "First again")
	if h != again {
		t.Errorf("the handle is %v", h)
	}
	o, h, e = After(o, again)
	wantTold(t, o, e, told([]int{2, 3, 0, 1}, []int{2, 3, 0, 1}, []int{0, 0, 1, 0}, 13, 3), "After 2")
	if h != (api.Handle{Number: 3}) {
		t.Errorf("the handle is %v", h)
	}
	o, h, e = Before(o, zero)
	wantTold(t, o, e, told([]int{2, 3, -1, 4, 0, -1, 1}, []int{4, 6, 0, 1, 3}, []int{0, 0, 1, 0, 0}, 18, 5), "Before 0")
	if h != (api.Handle{Number: 4}) {
		t.Errorf("the handle is %v", h)
	}
	o, e = Delete(o, again)
	wantTold(t, o, e, told([]int{-1, 3, -1, 4, 0, -1, 1}, []int{4, 6, -1, 1, 3}, []int{0, 0, 2, 0, 0}, 18, 5), "Delete of 2 again")
}

// P15.1: the list of each config without handles; and no list of one that may not be.
func TestNew(t *testing.T) {
	for _, c := range append(named(), widest()) {
		o, e := New(c)
		wantOrder(t, o, e, empty(c), "New", c)
		wantCheck(t, o, api.OK, "New")
		if l, e := List(o); e != api.OK || len(l) > 0 {
			t.Errorf("List of nothing: %v, %d", l, int(e))
		}
		for _, h := range empty(c).strangers() {
			wantStranger(t, o, h, api.Handle{}, api.ErrHandle)
		}
	}
	for why, c := range badConfigs() {
		o, e := New(c)
		wantNone(t, o, e, api.ErrConf, "New", why, c)
	}
}

// badConfigs break the conditions of a config, most of them one alone.
func badConfigs() map[string]api.Config {
	small, wide := growing(), widest()
	return map[string]api.Config{
		"nothing":         {},
		"tag 0":           turned(small, func(c *api.Config) { c.Tag = 0 }),
		"tag 4":           turned(small, func(c *api.Config) { c.Tag = 4 }),
		"most 0":          turned(small, func(c *api.Config) { c.Most = 0 }),
		"most above":      turned(wide, func(c *api.Config) { c.Most++ }),
		"heights":         turned(small, func(c *api.Config) { c.Most++ }),
		"seg no power":    turned(wide, func(c *api.Config) { c.Seg = 48 }),
		"seg above":       turned(wide, func(c *api.Config) { c.Seg = 128 }),
		"least below seg": turned(wide, func(c *api.Config) { c.Least = 32 }),
		"den above":       turned(wide, func(c *api.Config) { c.Den, c.RootHigh = 65, 33 }),
		"leaf low":        turned(small, func(c *api.Config) { c.LeafLow = c.RootLow }),
		"leaf high":       turned(wide, func(c *api.Config) { c.LeafHigh++ }),
		"half":            turned(wide, func(c *api.Config) { c.RootHigh-- }),
		"eighth":          turned(wide, func(c *api.Config) { c.RootLow++ }),
	}
}

// fault is a way in which a list may not be: one thing that is turned.
type fault struct {
	why  string
	turn func(o *api.Order)
}

// spoilt hands on p behind each of the faults alone.
func spoilt(p plain, faults []fault, do func(o api.Order, why string)) {
	for _, f := range faults {
		o := p.packed()
		f.turn(&o)
		do(o, f.why)
	}
}

// arrayFaults are those of the array alone: in each way that its config, or chapter 4, refuses.
func arrayFaults(p plain) []fault {
	n := p.size
	l := []fault{
		{"nothing", func(o *api.Order) { o.Slots = api.Slots{} }},
		{"another segment", func(o *api.Order) { o.Slots.Seg *= 2 }},
		{"a segment that may not be", func(o *api.Order) { o.Slots.Seg = 3 }},
		{"a slot less", func(o *api.Order) { o.Slots.Keys, o.Slots.Vals = o.Slots.Keys[:n-1], o.Slots.Vals[:n-1] }},
		{"a key less", func(o *api.Order) { o.Slots.Keys = o.Slots.Keys[:n-1] }},
		{"a value more", func(o *api.Order) { o.Slots.Vals = append(o.Slots.Vals, 0) }},
		{"no words", func(o *api.Order) { o.Slots.Words = nil }},
		{"a word more", func(o *api.Order) { o.Slots.Words = append(o.Slots.Words, 0) }},
		{"a count more", func(o *api.Order) { o.Slots.Counts = append(o.Slots.Counts, 0) }},
		{"a count that is wrong", func(o *api.Order) { o.Slots.Counts[0]++ }},
		{"a bit that is not counted", func(o *api.Order) { o.Slots.Words[0] ^= 1 }},
	}
	if at := slices.Index(p.array().Keys, 0); at >= 0 && p.array().Words[at/64]>>uint(at%64)&1 == 0 {
		l = append(l, fault{"a key in a gap", func(o *api.Order) { o.Slots.Keys[at] = 1 }}, fault{"a value in a gap", func(o *api.Order) { o.Slots.Vals[at] = least }})
	}
	return l
}

// tableFaults are those of the table alone: in each way that chapter 14 refuses.
func tableFaults(p plain) []fault {
	n := len(p.gens)
	l := []fault{
		{"a generation more", func(o *api.Order) { o.Table.Gens = append(o.Table.Gens, 0) }},
		{"a place more", func(o *api.Order) { o.Table.Ats = append(o.Table.Ats, -1) }},
		{"a free number below generation 0", func(o *api.Order) {
			o.Table = api.Handles{Gens: append(o.Table.Gens, -1), Ats: append(o.Table.Ats, -1)}
		}},
		{"a free number beyond the last generation", func(o *api.Order) {
			o.Table = api.Handles{Gens: append(o.Table.Gens, lastGen+1), Ats: append(o.Table.Ats, -1)}
		}},
		{"a place that is none", func(o *api.Order) {
			o.Table = api.Handles{Gens: append(o.Table.Gens, 0), Ats: append(o.Table.Ats, -2)}
		}},
		{"too many numbers", func(o *api.Order) {
			o.Table.Gens = append(o.Table.Gens, make([]int, mostNumbers+1-n)...)
			o.Table.Ats = append(o.Table.Ats, slices.Repeat([]int{-1}, mostNumbers+1-n)...)
		}},
	}
	if n > 0 {
		l = append(l, fault{"no generations", func(o *api.Order) { o.Table.Gens = nil }}, fault{"no places", func(o *api.Order) { o.Table.Ats = nil }})
	}
	for _, h := range someOf(p.handles()) {
		for _, gen := range []int{-1, least, lastGen, lastGen + 1, greatest} {
			l = append(l, fault{"a generation of one that is out", func(o *api.Order) { o.Table.Gens[h.Number] = gen }})
		}
	}
	return l
}

// pairFaults are those of what pairs and numbers say of each other.
func pairFaults(p plain) []fault {
	var l []fault
	n, ats := len(p.gens), p.ats()
	more := func(at int) fault {
		return fault{"one that is out, and has no pair", func(o *api.Order) {
			o.Table = api.Handles{Gens: append(o.Table.Gens, 0), Ats: append(o.Table.Ats, at)}
		}}
	}
	l = append(l, more(0), more(p.size-1), more(p.size), more(greatest))
	for i, x := range p.seats {
		if len(p.seats) > 12 && i > 1 && i < len(p.seats)-2 && i%29 > 0 {
			continue
		}
		for _, val := range []int64{1, -1, least, greatest} {
			l = append(l, fault{"a value", func(o *api.Order) { o.Slots.Vals[x.slot] = val }})
		}
		for _, key := range []int{-1, -x.number - 1, n, n + 1, x.number + 1<<32, x.number + least, least, greatest, mostNumbers} {
			l = append(l, fault{"a key that is no number", func(o *api.Order) { o.Slots.Keys[x.slot] = int64(key) }})
		}
		for _, at := range []int{x.slot + 1, x.slot - 1, p.size + x.slot, x.slot + 1<<32, 0, greatest} {
			if at >= 0 && at != x.slot {
				l = append(l, fault{"a place that is another slot", func(o *api.Order) { o.Table.Ats[x.number] = at }})
			}
		}
		l = append(l, fault{"a number that is free", func(o *api.Order) { o.Table.Ats[x.number] = -1 }}, more(x.slot))
		if other := p.seats[len(p.seats)-1-i]; other.number != x.number {
			l = append(l,
				fault{"another one's number", func(o *api.Order) { o.Slots.Keys[x.slot] = int64(other.number) }},
				fault{"two that changed their places", func(o *api.Order) {
					o.Table.Ats[x.number], o.Table.Ats[other.number] = other.slot, x.slot
				}},
				fault{"one at another one's place", func(o *api.Order) { o.Table.Ats[x.number] = other.slot }})
		}
		if free := slices.Index(ats, -1); free >= 0 {
			l = append(l,
				fault{"a pair of a number that is free", func(o *api.Order) { o.Slots.Keys[x.slot] = int64(free) }},
				fault{"a pair of a number that is free, instead of its own", func(o *api.Order) {
					o.Slots.Keys[x.slot], o.Table.Ats[x.number] = int64(free), -1
				}})
		}
	}
	return l
}

// faulty are lists upon which faults are tried.
func faulty(t *testing.T) []plain {
	t.Helper()
	next := mixer(8)
	var l []plain
	for _, c := range named() {
		for _, n := range []int{0, 1, 2, c.Most / 2, c.Most - 1, c.Most} {
			p := loaded(c, min(n, c.Most))
			l = append(l, p, p.renumbered(3, next))
		}
	}
	for _, p := range l {
		wantCheck(t, p.packed(), api.OK, "without a fault")
	}
	return l
}

// P15.1, all: a config that may not be is told ahead of all else.
func TestConfigRefused(t *testing.T) {
	for why, c := range badConfigs() {
		wantRefused(t, api.Order{Config: c}, api.ErrConf, why)
		for _, p := range []plain{empty(growing()), loaded(growing(), 40), loaded(growing(), 64).worn(70), loaded(example(), 5)} {
			o := p.packed()
			o.Config = c
			wantRefused(t, o, api.ErrConf, why)
			spoilt(p, slices.Concat(arrayFaults(p), tableFaults(p)[:3], pairFaults(p)), func(o api.Order, spoilt string) {
				o.Config = c
				wantRefused(t, o, api.ErrConf, why, spoilt)
			})
		}
	}
}

// P15.1, all: an array that may not be, or is not its config's.
func TestArrayRefused(t *testing.T) {
	for _, p := range faulty(t) {
		spoilt(p, arrayFaults(p), func(o api.Order, why string) { wantRefused(t, o, api.ErrBad, why) })
	}
}

// P15.1, all: an array of another config, though it may be: by its Seg, its capacity, and Most.
func TestOtherConfigRefused(t *testing.T) {
	for _, one := range []struct {
		why string
		p   plain
		c   api.Config
	}{
		{"a Seg", empty(growing()), example()},
		{"a Seg, with handles", loaded(growing(), 8), example()},
		{"the least capacity", empty(tilted()), turned(tilted(), func(c *api.Config) { c.Least = 128 })},
		{"the greatest capacity", loaded(growing(), 64), turned(growing(), func(c *api.Config) { c.Most = 32 })},
		{"Most", loaded(growing(), 32), turned(growing(), func(c *api.Config) { c.Most = 31 })},
	} {
		o := one.p.packed()
		wantCheck(t, o, api.OK, one.why)
		o.Config = one.c
		wantRefused(t, o, api.ErrBad, one.why)
	}
}

// P15.1, all: a window with too many pairs, though all of it has not; and all with too few.
func TestWindowsRefused(t *testing.T) {
	crowded := loaded(example(), 8)
	for i := range crowded.seats {
		crowded.seats[i].slot = i
	}
	wantRefused(t, crowded.packed(), api.ErrBad, "a window with too many")
	wantRefused(t, plain{c: growing(), size: 32}.packed(), api.ErrBad, "all with too few")
}

// P15.1, all: a table that may not be.
func TestTableRefused(t *testing.T) {
	for _, p := range faulty(t) {
		spoilt(p, tableFaults(p), func(o api.Order, why string) { wantRefused(t, o, api.ErrBad, why) })
	}
}

// P15.1, all: pairs with a value, or a key that is no number of theirs; more numbers given out than there are pairs.
func TestPairsRefused(t *testing.T) {
	for _, p := range faulty(t) {
		spoilt(p, pairFaults(p), func(o api.Order, why string) { wantRefused(t, o, api.ErrBad, why) })
	}
}

// P15.1, P15.2: lists of all kinds may be, whatever their ledgers; their handles stand in the order of their slots.
func TestCheckAndList(t *testing.T) {
	everyList(t, named(), func(p plain, o api.Order) {
		for _, n := range []uint64{0, 1, 1 << 63, allBits} {
			o.Slots.Laid, o.Moved = n, allBits-n
			wantCheck(t, o, api.OK, "a list")
		}
		if l, e := List(o); e != api.OK || !slices.Equal(l, p.handles()) {
			t.Errorf("List(%v) = %v, %d; want %v", o, l, int(e), p.handles())
		}
		o.Slots.Laid, o.Moved = p.laid, p.moved
	})
}

// P15.2: each handle's label, or some; how each two stand; those that are none of the list, ahead and behind.
func TestLabelAndCompare(t *testing.T) {
	everyList(t, named(), func(p plain, o api.Order) {
		l := p.handles()
		some := someOf(l)
		for _, a := range some {
			i := slices.Index(l, a)
			wantLabel(t, o, a, p.seats[i].slot, api.OK)
			for _, b := range some {
				wantCompare(t, o, a, b, cmp.Compare(i, slices.Index(l, b)), api.OK)
			}
		}
		for _, h := range p.strangers() {
			wantLabel(t, o, h, 0, api.ErrHandle)
			wantCompare(t, o, h, h, 0, api.ErrHandle)
			for _, a := range append(slices.Clone(some[:min(len(some), 1)]), api.Handle{Number: -1}) {
				wantCompare(t, o, a, h, 0, api.ErrHandle)
				wantCompare(t, o, h, a, 0, api.ErrHandle)
			}
		}
	})
}

// went tells how a step went: what became of the capacity, and how far labels of other handles were turned.
func went(before, behind plain) string {
	switch cmp.Compare(behind.size, before.size) {
	case 1:
		return "grown"
	case -1:
		return "halved"
	}
	was, segments := before.ats(), map[int]bool{}
	for number, at := range behind.ats() {
		if number < len(was) && was[number] >= 0 && at >= 0 && at != was[number] {
			segments[at/before.c.Seg], segments[was[number]/before.c.Seg] = true, true
		}
	}
	switch len(segments) {
	case 0:
		return "none is turned"
	case 1:
		return "a segment"
	}
	return "a wider window"
}

// wantLetIn asks for a handle as the k-th by each call that lets it in there, and answers how that went.
func wantLetIn(t *testing.T, p plain, o api.Order, k int) string {
	t.Helper()
	l := p.handles()
	want, wantH, wantE := p.letIn(k)
	if k == 0 {
		got, h, e := First(o)
		wantNew(t, got, h, e, want, wantH, wantE, "First", p.c)
	}
	if k > 0 {
		got, h, e := After(o, l[k-1])
		wantNew(t, got, h, e, want, wantH, wantE, "After", p.c, l[k-1])
	}
	if k < len(l) {
		got, h, e := Before(o, l[k])
		wantNew(t, got, h, e, want, wantH, wantE, "Before", p.c, l[k])
	}
	if wantE != api.OK {
		return "refused"
	}
	return went(p, want)
}

// wantTakenOut asks for the list without its k-th handle, and answers how that went.
func wantTakenOut(t *testing.T, p plain, o api.Order, k int) string {
	t.Helper()
	h, want := p.handles()[k], p.takeOut(k)
	got, e := Delete(o, h)
	wantOrder(t, got, e, want, "Delete", p.c, h)
	return went(p, want)
}

// somePlaces are each of a few places among n handles, and some of many.
func somePlaces(n int) []int {
	var l []int
	for k := range n + 1 {
		if n <= 12 || k <= 1 || k%31 == 5 || k == n/2 || k >= n-1 {
			l = append(l, k)
		}
	}
	return l
}

// P15.3: handles that come and go in each place, or some, of lists of all kinds, whose segments, wider windows and capacities are turned by it; and handles that are none.
func TestStepsOfEveryList(t *testing.T) {
	came, gone := map[string]int{}, map[string]int{}
	everyList(t, named(), func(p plain, o api.Order) {
		for _, k := range somePlaces(len(p.seats)) {
			came[wantLetIn(t, p, o, k)]++
			if k < len(p.seats) {
				gone[wantTakenOut(t, p, o, k)]++
			}
		}
		known := api.Handle{}
		if len(p.seats) > 0 {
			known = p.handles()[0]
		}
		for _, h := range p.strangers() {
			wantStranger(t, o, h, known, api.ErrHandle)
		}
	})
	for _, way := range []string{"refused", "none is turned", "a segment", "a wider window", "grown"} {
		if came[way] == 0 {
			t.Errorf("no handle came where this is so: %s (%v)", way, came)
		}
	}
	for _, way := range []string{"none is turned", "a wider window", "halved"} {
		if gone[way] == 0 {
			t.Errorf("no handle went where this is so: %s (%v)", way, gone)
		}
	}
}

// P15.3: each number of handles of small configs, each place.
func TestEachPlace(t *testing.T) {
	next := mixer(31)
	for _, c := range []api.Config{example(), growing(), flat(), single()} {
		for n := range c.Most + 1 {
			for _, p := range []plain{loaded(c, n), loaded(c, n).renumbered(2, next)} {
				o := p.packed()
				for k := range n + 1 {
					wantLetIn(t, p, o, k)
					if k < n {
						wantTakenOut(t, p, o, k)
					}
				}
			}
		}
	}
}

// P15.3: with one handle less than Most one comes, wherever; behind it none, and a handle that is none is told ahead of that.
func TestMost(t *testing.T) {
	for _, c := range named() {
		p := loaded(c, c.Most-1)
		for _, k := range []int{0, (c.Most - 1) / 2, c.Most - 1} {
			full, _, e := p.letIn(k)
			if e != api.OK || len(full.seats) != c.Most {
				t.Fatalf("%d handles: %d", len(full.seats), int(e))
			}
			wantLetIn(t, p, p.packed(), k)
			o := full.packed()
			wantFull(t, full)
			for _, h := range full.strangers() {
				wantStranger(t, o, h, full.handles()[0], api.ErrHandle)
			}
			wantTakenOut(t, full, o, k)
		}
	}
}

// wantFull asks that no handle comes, by whichever call, and that those that there are may go.
func wantFull(t *testing.T, p plain) {
	t.Helper()
	o := p.packed()
	wantCheck(t, o, api.OK, "a full list")
	got, h, e := First(o)
	wantNew(t, got, h, e, plain{}, api.Handle{}, api.ErrFull, "First")
	for _, one := range someOf(p.handles()) {
		got, h, e = After(o, one)
		wantNew(t, got, h, e, plain{}, api.Handle{}, api.ErrFull, "After", one)
		got, h, e = Before(o, one)
		wantNew(t, got, h, e, plain{}, api.Handle{}, api.ErrFull, "Before", one)
	}
}

// P15.3: MaxSlots numbers, none of which can be given out: none comes, though there are fewer than Most; with one that can, or one number less, one comes.
func TestTableWithoutNumbers(t *testing.T) {
	for _, p := range []plain{empty(growing()), loaded(growing(), 1), loaded(growing(), 40), loaded(fromFlat(), 199)} {
		p = p.worn(mostNumbers)
		wantFull(t, p)
		for _, h := range []api.Handle{{Number: mostNumbers - 1, Gen: lastGen}, {Number: mostNumbers - 1}, {Number: mostNumbers}, {Number: -1}} {
			wantStranger(t, p.packed(), h, h, api.ErrHandle)
		}
		if n := len(p.seats); n > 0 {
			wantTakenOut(t, p, p.packed(), n/2)
			back := p.takeOut(n / 2)
			wantLetIn(t, back, back.packed(), 0)
		}
		for _, gen := range []int{0, lastGen - 1} {
			one := p
			one.gens = slices.Clone(p.gens)
			one.gens[mostNumbers-2] = gen
			wantLetIn(t, one, one.packed(), len(p.seats)/2)
			full, h, e := one.letIn(0)
			if e != api.OK || h != (api.Handle{Number: mostNumbers - 2, Gen: gen}) {
				t.Errorf("the one that can be given out: %v, %d", h, int(e))
			}
			wantFull(t, full)
		}
		less := p
		less.gens = p.gens[:mostNumbers-1]
		wantLetIn(t, less, less.packed(), 0)
	}
}

// P15.3: a number that was taken back at its last generation is not given out again: another one is.
func TestLastGeneration(t *testing.T) {
	for _, n := range []int{1, 3, 8} {
		p := loaded(example(), n)
		for _, h := range p.handles() {
			p.gens[h.Number] = lastGen - 1
		}
		for k, h := range p.handles() {
			o, e := Delete(p.packed(), h)
			want := p.takeOut(k)
			wantOrder(t, o, e, want, "Delete of the last generation")
			for _, gen := range []int{lastGen - 1, lastGen, 0} {
				wantStranger(t, o, api.Handle{Number: h.Number, Gen: gen}, h, api.ErrHandle)
			}
			o, again, e := First(o)
			want, _, _ = want.letIn(0)
			wantNew(t, o, again, e, want, api.Handle{Number: n}, api.OK, "First behind the last generation")
			if e := Check(o); e != api.OK {
				t.Errorf("a list with a worn number: %d", int(e))
			}
		}
	}
}

// P15.3: a count of turned labels that is near its greatest number goes on from 0.
func TestMovedRunsOver(t *testing.T) {
	over := 0
	for _, c := range []api.Config{growing(), fromFlat()} {
		for _, p := range rows(c, mixer(4)) {
			for _, k := range somePlaces(len(p.seats)) {
				for _, ahead := range []uint64{0, 1, 2, 5, 11} {
					p.moved = allBits - ahead
					wantLetIn(t, p, p.packed(), k)
					if q, _, e := p.letIn(k); e == api.OK && q.moved < p.moved {
						over++
					}
					if k < len(p.seats) {
						wantTakenOut(t, p, p.packed(), k)
					}
				}
			}
		}
	}
	if over == 0 {
		t.Error("no count ran over")
	}
}

// P15.1 to P15.3 where sizes are at their limits: Most handles of 16,384, and the greatest capacity.
func TestWidest(t *testing.T) {
	next := mixer(6)
	for _, n := range []int{api.MaxMost, api.MaxMost - 1, 8192, 4096} {
		p := loaded(widest(), n).renumbered(70, next)
		o := p.packed()
		wantCheck(t, o, api.OK, "the widest")
		if l, e := List(o); e != api.OK || !slices.Equal(l, p.handles()) {
			t.Errorf("List of %d: %d, %d", n, len(l), int(e))
		}
		wantLetIn(t, p, o, n/3)
		wantTakenOut(t, p, o, n/3)
		l := p.handles()
		wantCompare(t, o, l[n-1], l[0], 1, api.OK)
		wantLabel(t, o, l[n-1], p.seats[n-1].slot, api.OK)
	}
}
