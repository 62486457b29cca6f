package occ

import (
	"math"
	"slices"
	"testing"

	"shelfmark/api"
)

const (
	least    = math.MinInt64
	greatest = math.MaxInt64
	allBits  = ^uint64(0)
	highBit  = uint64(1) << 63
)

// plain is an occupancy told without words: whether each slot is occupied.
type plain []bool

// words packs p by the definition alone: the bit s % 64 of the word s / 64.
func (p plain) words() []uint64 {
	w := make([]uint64, len(p)/64+min(len(p)%64, 1))
	for s, is := range p {
		if is {
			w[s/64] |= 1 << uint(s%64)
		}
	}
	return w
}

// patterns are occupancies of n slots: none, all, the lowest and the highest bits of words, the ends, and mixed ones.
func patterns(n int) []plain {
	seed := uint64(n) + 1
	mixed := func(int) bool {
		seed = seed*6364136223846793005 + 1442695040888963407
		return seed>>62 == 0
	}
	rules := []func(s int) bool{
		func(int) bool { return false },
		func(int) bool { return true },
		func(s int) bool { return s%64 == 0 },
		func(s int) bool { return s%64 == 63 },
		func(s int) bool { return s == 0 },
		func(s int) bool { return s == n-1 },
		func(s int) bool { return s%3 == 1 },
		func(s int) bool { return s/64 == 1 },
		mixed,
	}
	var l []plain
	for _, rule := range rules {
		p := make(plain, n)
		for s := range p {
			p[s] = rule(s)
		}
		l = append(l, p)
	}
	return l
}

// sizes are numbers of slots around the ends of words.
func sizes() []int {
	return []int{0, 1, 2, 4, 63, 64, 65, 127, 128, 129, 140, 191, 192, 193}
}

// everyOccupancy hands on each pattern of each size, and asks behind it that its words are what they were.
func everyOccupancy(t *testing.T, do func(p plain, w []uint64, n int)) {
	t.Helper()
	for _, n := range sizes() {
		for _, p := range patterns(n) {
			w := p.words()
			do(p, w, n)
			if !slices.Equal(w, p.words()) {
				t.Fatalf("words of %d slots were turned", n)
			}
		}
	}
}

func (p plain) count(from, to int) int {
	c := 0
	for s := from; s < to; s++ {
		if p[s] {
			c++
		}
	}
	return c
}

func (p plain) next(at int) (int, api.Errno) {
	for s := at; s < len(p); s++ {
		if p[s] {
			return s, api.OK
		}
	}
	return 0, api.ErrNone
}

func (p plain) last(at int) (int, api.Errno) {
	for s := at - 1; s >= 0; s-- {
		if p[s] {
			return s, api.OK
		}
	}
	return 0, api.ErrNone
}

func wantErr(t *testing.T, e, want api.Errno, what string, args ...any) {
	t.Helper()
	if e != want {
		t.Errorf("%s%v: error %d; want %d", what, args, int(e), int(want))
	}
}

func wantNumber(t *testing.T, k int, e api.Errno, want int, wantE api.Errno, what string, args ...any) {
	t.Helper()
	if k != want || e != wantE {
		t.Errorf("%s%v = %d, %d; want %d, %d", what, args, k, int(e), want, int(wantE))
	}
}

func TestExamples(t *testing.T) {
	w := []uint64{5}
	for at, want := range []bool{true, false, true, false} {
		is, e := Has(w, 4, at)
		if is != want || e != api.OK {
			t.Errorf("Has of %d = %v, %d", at, is, int(e))
		}
	}
	k, e := Next(w, 4, 1)
	wantNumber(t, k, e, 2, api.OK, "Next", 1)
	k, e = Last(w, 4, 2)
	wantNumber(t, k, e, 0, api.OK, "Last", 2)
	k, e = Nth(w, 4, 1)
	wantNumber(t, k, e, 2, api.OK, "Nth", 1)
	k, e = Count(w, 4, 1, 4)
	wantNumber(t, k, e, 1, api.OK, "Count", 1, 4)
	wantErr(t, Check([]uint64{16}, 4), api.ErrBad, "Check", 16, 4)
}

// P2.1: what may be an occupancy.
func TestCheckTakes(t *testing.T) {
	everyOccupancy(t, func(p plain, w []uint64, n int) {
		wantErr(t, Check(w, n), api.OK, "Check", w, n)
	})
	for _, n := range []int{api.MaxSlots - 64, api.MaxSlots - 1, api.MaxSlots} {
		for _, p := range patterns(n) {
			wantErr(t, Check(p.words(), n), api.OK, "Check", n)
		}
	}
	wantErr(t, Check(nil, 0), api.OK, "Check", "none", 0)
	wantErr(t, Check([]uint64{}, 0), api.OK, "Check", "no words", 0)
	wantErr(t, Check([]uint64{allBits}, 64), api.OK, "Check", "all", 64)
	wantErr(t, Check([]uint64{allBits >> 1}, 63), api.OK, "Check", "all", 63)
	wantErr(t, Check([]uint64{0, 1}, 65), api.OK, "Check", "the last", 65)
}

// P2.1: a number of slots that is none is told ahead of the words.
func TestCheckRefusesSizes(t *testing.T) {
	for _, n := range []int{-1, -63, -64, -65, -128, least, least + 1, api.MaxSlots + 1, api.MaxSlots + 64, 1 << 32, greatest - 62, greatest - 63, greatest} {
		for _, w := range [][]uint64{nil, {}, {0}, {16}, {allBits, allBits}, make([]uint64, 1024), make([]uint64, 1025), make([]uint64, 1026)} {
			wantErr(t, Check(w, n), api.ErrArg, "Check", len(w), n)
		}
	}
}

// P2.1: too few words, too many, and bits of slots from n on.
func TestCheckRefusesWords(t *testing.T) {
	for _, n := range append(sizes(), api.MaxSlots-64, api.MaxSlots-1, api.MaxSlots) {
		w := make(plain, n).words()
		wantErr(t, Check(append(slices.Clone(w), 0), n), api.ErrBad, "Check", len(w)+1, n)
		wantErr(t, Check(append(slices.Clone(w), 0, 0), n), api.ErrBad, "Check", len(w)+2, n)
		if n == 0 {
			continue
		}
		wantErr(t, Check(w[:len(w)-1], n), api.ErrBad, "Check", len(w)-1, n)
		wantErr(t, Check(nil, n), api.ErrBad, "Check", "none", n)
		for s := n; s < len(w)*64; s++ {
			bad := slices.Clone(w)
			bad[s/64] |= 1 << uint(s%64)
			wantErr(t, Check(bad, n), api.ErrBad, "Check", "the slot", s, n)
		}
	}
}

// P2.1: words of any number and kind, none and no words the same.
func TestSame(t *testing.T) {
	lists := [][]uint64{{0}, {1}, {highBit}, {allBits}, {0, 0}, {0, 1}, {1, 0}, {5, allBits, 7}, {5, allBits, 8}, {4, allBits, 7}, make([]uint64, 1025)}
	for i, a := range lists {
		for j, b := range lists {
			if Same(a, slices.Clone(b)) != (i == j) {
				t.Errorf("Same of %d and %d words (%d, %d) is not %v", len(a), len(b), i, j, i == j)
			}
		}
		if Same(nil, a) || Same(a, nil) || Same([]uint64{}, a) || Same(a, []uint64{}) {
			t.Errorf("%v is the same as no words", a)
		}
	}
	if !Same(nil, nil) || !Same(nil, []uint64{}) || !Same([]uint64{}, nil) || !Same([]uint64{}, []uint64{}) {
		t.Error("none and no words are not the same")
	}
}

// P2.2: each slot of each occupancy.
func TestHas(t *testing.T) {
	everyOccupancy(t, func(p plain, w []uint64, n int) {
		for s, want := range p {
			is, e := Has(w, n, s)
			if is != want || e != api.OK {
				t.Errorf("Has of %d of %d = %v, %d; want %v", s, n, is, int(e), want)
			}
		}
	})
}

// P2.2: the slot that is named is turned, both ways and where it was so already, and no other.
func TestWith(t *testing.T) {
	everyOccupancy(t, func(p plain, w []uint64, n int) {
		for s := range p {
			for _, is := range []bool{true, false} {
				want := slices.Clone(p)
				want[s] = is
				got, e := With(w, n, s, is)
				if e != api.OK || !slices.Equal(got, want.words()) {
					t.Errorf("With of %d of %d, %v: %v, %d", s, n, is, got, int(e))
				}
			}
		}
	})
}

// outside are places that are neither slots of n nor n.
func outside(n int) []int {
	return []int{-1, -64, -65, least, least + 1, n + 1, n + 64, n + 65, api.MaxSlots + 1, 1 << 32, greatest}
}

// P2.2: what is no slot, n among it.
func TestSlotsRefused(t *testing.T) {
	everyOccupancy(t, func(p plain, w []uint64, n int) {
		for _, at := range append(outside(n), n) {
			is, e := Has(w, n, at)
			if is || e != api.ErrArg {
				t.Errorf("Has of %d of %d = %v, %d", at, n, is, int(e))
			}
			for _, is := range []bool{true, false} {
				got, e := With(w, n, at, is)
				if len(got) != 0 || e != api.ErrArg {
					t.Errorf("With of %d of %d = %v, %d", at, n, got, int(e))
				}
			}
		}
	})
}

// P2.3: each part, the empty ones and all among them.
func TestCount(t *testing.T) {
	everyOccupancy(t, func(p plain, w []uint64, n int) {
		for from := 0; from <= n; from++ {
			want := 0
			for to := from; to <= n; to++ {
				if to > from && p[to-1] {
					want++
				}
				c, e := Count(w, n, from, to)
				wantNumber(t, c, e, want, api.OK, "Count", n, from, to)
			}
		}
	})
}

// P2.3: ends outside, and ends that are turned round.
func TestCountRefuses(t *testing.T) {
	everyOccupancy(t, func(p plain, w []uint64, n int) {
		for _, out := range outside(n) {
			for _, in := range []int{0, n / 2, n, out} {
				c, e := Count(w, n, in, out)
				wantNumber(t, c, e, 0, api.ErrArg, "Count", n, in, out)
				c, e = Count(w, n, out, in)
				wantNumber(t, c, e, 0, api.ErrArg, "Count", n, out, in)
			}
		}
		c, e := Count(w, n, -1, n+1)
		wantNumber(t, c, e, 0, api.ErrArg, "Count", n, -1, n+1)
		for from := 1; from <= n; from++ {
			for _, to := range []int{0, from - 1} {
				c, e := Count(w, n, from, to)
				wantNumber(t, c, e, 0, api.ErrArg, "Count", n, from, to)
			}
		}
	})
}

// P2.3: each number from 0 to the last one, and those outside.
func TestNth(t *testing.T) {
	everyOccupancy(t, func(p plain, w []uint64, n int) {
		k := 0
		for s, is := range p {
			if is {
				got, e := Nth(w, n, k)
				wantNumber(t, got, e, s, api.OK, "Nth", n, k)
				k++
			}
		}
		for _, out := range []int{-1, -64, least, least + 1, k, k + 1, k + 64, n + 1, api.MaxSlots, 1 << 32, greatest} {
			if out >= 0 && out < k {
				continue
			}
			got, e := Nth(w, n, out)
			wantNumber(t, got, e, 0, api.ErrNone, "Nth", n, out)
		}
	})
}

// P2.4: each place, 0 and n among them.
func TestNextAndLast(t *testing.T) {
	everyOccupancy(t, func(p plain, w []uint64, n int) {
		for at := 0; at <= n; at++ {
			got, e := Next(w, n, at)
			want, wantE := p.next(at)
			wantNumber(t, got, e, want, wantE, "Next", n, at)
			got, e = Last(w, n, at)
			want, wantE = p.last(at)
			wantNumber(t, got, e, want, wantE, "Last", n, at)
		}
	})
}

// P2.4: places outside are no places, whether or not there is anything to find.
func TestNextAndLastRefuse(t *testing.T) {
	everyOccupancy(t, func(p plain, w []uint64, n int) {
		for _, at := range outside(n) {
			got, e := Next(w, n, at)
			wantNumber(t, got, e, 0, api.ErrArg, "Next", n, at)
			got, e = Last(w, n, at)
			wantNumber(t, got, e, 0, api.ErrArg, "Last", n, at)
		}
	})
}

// P2.2 to P2.4 at as many slots as there may be.
func TestMostSlots(t *testing.T) {
	n := api.MaxSlots
	for _, p := range patterns(n) {
		w := p.words()
		all := p.count(0, n)
		c, e := Count(w, n, 0, n)
		wantNumber(t, c, e, all, api.OK, "Count", n, 0, n)
		for _, at := range []int{0, 1, 63, 64, 65, 127, 128, n / 2, n - 65, n - 64, n - 63, n - 2, n - 1} {
			is, e := Has(w, n, at)
			if is != p[at] || e != api.OK {
				t.Errorf("Has of %d = %v, %d", at, is, int(e))
			}
			turned, e := With(w, n, at, !is)
			if e != api.OK || len(turned) != len(w) || turned[at/64]^w[at/64] != 1<<uint(at%64) {
				t.Errorf("With of %d: %d", at, int(e))
			}
			want, wantE := p.next(at)
			got, e := Next(w, n, at)
			wantNumber(t, got, e, want, wantE, "Next", n, at)
			want, wantE = p.last(at)
			got, e = Last(w, n, at)
			wantNumber(t, got, e, want, wantE, "Last", n, at)
			if is {
				got, e = Nth(w, n, p.count(0, at))
				wantNumber(t, got, e, at, api.OK, "Nth", n, p.count(0, at))
			}
		}
		got, e := Next(w, n, n)
		wantNumber(t, got, e, 0, api.ErrNone, "Next", n, n)
		got, e = Nth(w, n, all)
		wantNumber(t, got, e, 0, api.ErrNone, "Nth", n, all)
	}
}

// P2.1 and P1: Check's error first, of every call, whatever else is wrong.
func TestCheckFirst(t *testing.T) {
	for _, x := range []struct {
		w    []uint64
		n    int
		want api.Errno
	}{
		{nil, -1, api.ErrArg},
		{[]uint64{16}, least, api.ErrArg},
		{make([]uint64, 1025), api.MaxSlots + 1, api.ErrArg},
		{[]uint64{1}, greatest, api.ErrArg},
		{[]uint64{16}, 4, api.ErrBad},
		{[]uint64{5, 0}, 4, api.ErrBad},
		{nil, 4, api.ErrBad},
		{[]uint64{0}, 0, api.ErrBad},
		{[]uint64{highBit}, 63, api.ErrBad},
		{[]uint64{1, 2}, 65, api.ErrBad},
		{[]uint64{1}, 65, api.ErrBad},
		{make([]uint64, 1023), api.MaxSlots, api.ErrBad},
		{make([]uint64, 1025), api.MaxSlots, api.ErrBad},
	} {
		for _, at := range []int{0, 1, 3, 4, 64, 65, 1024, -1, least, greatest, x.n} {
			is, e := Has(x.w, x.n, at)
			got, f := With(x.w, x.n, at, true)
			if is || len(got) != 0 {
				t.Errorf("Has or With of %d of %d answers beside an error", at, x.n)
			}
			wantErr(t, e, x.want, "Has", len(x.w), x.n, at)
			wantErr(t, f, x.want, "With", len(x.w), x.n, at)
			for _, to := range []int{at, 0, -1, greatest, least} {
				c, e := Count(x.w, x.n, at, to)
				wantNumber(t, c, e, 0, x.want, "Count", len(x.w), x.n, at, to)
			}
			k, e := Next(x.w, x.n, at)
			wantNumber(t, k, e, 0, x.want, "Next", len(x.w), x.n, at)
			k, e = Last(x.w, x.n, at)
			wantNumber(t, k, e, 0, x.want, "Last", len(x.w), x.n, at)
			k, e = Nth(x.w, x.n, at)
			wantNumber(t, k, e, 0, x.want, "Nth", len(x.w), x.n, at)
		}
	}
}

// P2.5: words that were answered are nobody else's, even where nothing was turned, and where what was handed in has room behind it.
func TestNewMemory(t *testing.T) {
	everyOccupancy(t, func(p plain, w []uint64, n int) {
		roomy := append(make([]uint64, 0, len(w)+8), w...)
		for s, is := range p {
			first, _ := With(roomy, n, s, is)
			second, _ := With(roomy, n, s, is)
			if !slices.Equal(roomy, w) || !slices.Equal(first, w) {
				t.Fatalf("With of %d of %d turned a slot that was so already", s, n)
			}
			for i := range first {
				first[i] = ^first[i]
			}
			_ = append(first, allBits)
			if !slices.Equal(roomy, w) || !slices.Equal(second, w) {
				t.Fatalf("what With of %d of %d answered is shared", s, n)
			}
			for i := range roomy {
				roomy[i] = ^roomy[i]
			}
			if !slices.Equal(second, w) {
				t.Fatalf("With of %d of %d answered what was handed in", s, n)
			}
			copy(roomy, w)
		}
	})
}

// P2.5: what is handed in is only read, by every call, refused or not.
func TestOnlyRead(t *testing.T) {
	everyOccupancy(t, func(p plain, w []uint64, n int) {
		for _, m := range []int{n, n - 1, n + 1, n + 64, -1} {
			for _, at := range []int{-1, 0, 1, n / 2, n - 1, n, n + 1} {
				before := slices.Clone(w)
				Check(w, m)
				Has(w, m, at)
				With(w, m, at, true)
				With(w, m, at, false)
				Count(w, m, at, n)
				Count(w, m, 0, at)
				Next(w, m, at)
				Last(w, m, at)
				Nth(w, m, at)
				Same(w, before)
				if !slices.Equal(w, before) {
					t.Fatalf("words of %d slots were turned, at %d of %d", n, at, m)
				}
			}
		}
	})
}

// P2.6: counts of two parts add up.
func TestCountsAddUp(t *testing.T) {
	everyOccupancy(t, func(p plain, w []uint64, n int) {
		for from := 0; from <= n; from += 1 + from/7 {
			for to := from; to <= n; to += 1 + to/9 {
				all, _ := Count(w, n, from, to)
				for mid := from; mid <= to; mid++ {
					ahead, e := Count(w, n, from, mid)
					behind, f := Count(w, n, mid, to)
					if ahead+behind != all || e != api.OK || f != api.OK {
						t.Fatalf("of %d slots: %d from %d to %d, and %d on to %d, are not %d", n, ahead, from, mid, behind, to, all)
					}
				}
			}
		}
	})
}

// P2.6: from a number to its slot and back, and to the neighbours of that slot by their numbers.
func TestThereAndBack(t *testing.T) {
	everyOccupancy(t, func(p plain, w []uint64, n int) {
		all, _ := Count(w, n, 0, n)
		for k := range all {
			s, e := Nth(w, n, k)
			if is, _ := Has(w, n, s); !is || e != api.OK {
				t.Fatalf("Nth of %d of %d = %d, %d, which is not occupied", k, n, s, int(e))
			}
			ahead, e := Count(w, n, 0, s)
			wantNumber(t, ahead, e, k, api.OK, "Count", n, 0, s)
			next, e := Next(w, n, s)
			wantNumber(t, next, e, s, api.OK, "Next", n, s)
			last, e := Last(w, n, s+1)
			wantNumber(t, last, e, s, api.OK, "Last", n, s+1)
		}
		for at := 0; at <= n; at++ {
			ahead, _ := Count(w, n, 0, at)
			want, wantE := Nth(w, n, ahead)
			next, e := Next(w, n, at)
			wantNumber(t, next, e, want, wantE, "Next", n, at)
			want, wantE = Nth(w, n, ahead-1)
			last, e := Last(w, n, at)
			wantNumber(t, last, e, want, wantE, "Last", n, at)
		}
	})
}

// The bits of a word are all yielded, in their order, as often as they are gone through.
func TestBitsOfWords(t *testing.T) {
	for _, word := range []uint64{0, 1, 5, highBit, highBit | 1, allBits, 0xf0f0_0000_0001_8000} {
		var want []int
		for bit := range 64 {
			if word>>uint(bit)&1 == 1 {
				want = append(want, bit)
			}
		}
		up, down := upward(word), downward(word)
		for range 2 {
			if got := slices.Collect(up); !slices.Equal(got, want) {
				t.Errorf("upward of %x = %v", word, got)
			}
			got := slices.Collect(down)
			slices.Reverse(got)
			if !slices.Equal(got, want) {
				t.Errorf("downward of %x, turned round = %v", word, got)
			}
		}
	}
}
