package spread

import (
	"math"
	"slices"
	"testing"

	"shelfmark/api"
)

const (
	least    = math.MinInt64
	greatest = math.MaxInt64
	most     = 65536
)

// plainMayBe asks what the document asks of all calls.
func plainMayBe(n, from, to int) bool {
	for _, end := range []int{from, to} {
		if end < 0 || end > most {
			return false
		}
	}
	return from <= to && n >= 0 && n <= to-from
}

// plainPlaces goes from place to place by whole steps, and takes one more whenever what was left over fills a slot: nothing is multiplied.
func plainPlaces(n, from, to int) []int {
	var l []int
	at, over := from, 0
	for range n {
		l = append(l, at)
		at += (to - from) / n
		over += (to - from) % n
		if over >= n {
			at++
			over -= n
		}
	}
	return l
}

// plainMarks are how many of the places lie in each slot.
func plainMarks(n, from, to int) []int {
	marks := make([]int, to-from)
	for _, place := range plainPlaces(n, from, to) {
		marks[place-from]++
	}
	return marks
}

func sum(l []int) int {
	all := 0
	for _, n := range l {
		all += n
	}
	return all
}

// plainShares cuts the marks into equal parts, and counts each.
func plainShares(marks []int, parts int) []int {
	if len(marks) == 0 {
		return make([]int, parts)
	}
	var shares []int
	for part := range slices.Chunk(marks, len(marks)/parts) {
		shares = append(shares, sum(part))
	}
	return shares
}

// plainRanks are how many of the places lie ahead of each slot, and behind all of them.
func plainRanks(marks []int) []int {
	ranks := []int{0}
	for i, n := range marks {
		ranks = append(ranks, ranks[i]+n)
	}
	return ranks
}

func wantPlaces(t *testing.T, n, from, to int, want []int, wantErr api.Errno) {
	t.Helper()
	l, e := Places(n, from, to)
	if e != wantErr || !slices.Equal(l, want) {
		t.Errorf("Places(%d, %d, %d): %d places, %d; want %d, %d", n, from, to, len(l), int(e), len(want), int(wantErr))
	}
}

// t.Helper is called where there is something to tell alone: it costs more than what is asked.
func wantShare(t *testing.T, n, from, to, parts, k, want int, wantErr api.Errno) {
	if got, e := Share(n, from, to, parts, k); got != want || e != wantErr {
		t.Helper()
		t.Errorf("Share(%d, %d, %d, %d, %d) = %d, %d; want %d, %d", n, from, to, parts, k, got, int(e), want, int(wantErr))
	}
}

func wantRank(t *testing.T, n, from, to, at, want int, wantErr api.Errno) {
	if got, e := Rank(n, from, to, at); got != want || e != wantErr {
		t.Helper()
		t.Errorf("Rank(%d, %d, %d, %d) = %d, %d; want %d, %d", n, from, to, at, got, int(e), want, int(wantErr))
	}
}

// wantShares asks the share of each part.
func wantShares(t *testing.T, n, from, to, parts int, want []int) {
	t.Helper()
	for k, share := range want {
		wantShare(t, n, from, to, parts, k, share, api.OK)
	}
}

// wantRefused asks all calls with numbers of things, or slots, that may not be, and with parts and a slot that may, and that may not.
func wantRefused(t *testing.T, n, from, to int) {
	t.Helper()
	wantPlaces(t, n, from, to, nil, api.ErrArg)
	for _, x := range []int{least, -1, 0, 1, from, to, to - from, greatest} {
		wantShare(t, n, from, to, x, 0, 0, api.ErrArg)
		wantShare(t, n, from, to, 1, x, 0, api.ErrArg)
		wantShare(t, n, from, to, x, x-1, 0, api.ErrArg)
		wantRank(t, n, from, to, x, 0, api.ErrArg)
	}
}

// span is slots from one to another.
type span struct{ from, to int }

// spansOf are spans of w slots: at the first slot, one behind it, amid all, and at the last one.
func spansOf(w int) []span {
	l := []span{{0, w}, {1, 1 + w}, {1000, 1000 + w}, {most - w, most}}
	return slices.DeleteFunc(l, func(s span) bool { return s.to > most })
}

// smallSpans are spans of all widths up to a bound.
func smallSpans(bound int) []span {
	var l []span
	for w := range bound + 1 {
		l = append(l, spansOf(w)...)
	}
	return l
}

// greatSpans are some of many slots, all of them among these; powers, primes, and what lies beside them.
func greatSpans() []span {
	var l []span
	for _, w := range []int{255, 256, 257, 1000, 4096, 30030, 32767, 32768, 32769, 65519, 65521, 65535, 65536} {
		l = append(l, span{0, w}, span{most - w, most})
	}
	return l
}

// numbersOf are some numbers of things over w slots: few, half of them, nearly all, all.
func numbersOf(w int) []int {
	l := []int{0, 1, 2, 3, 5, 7, 64, 100, w / 5, w / 3, w/2 - 1, w / 2, w/2 + 1, w * 2 / 3, w * 7 / 8, w - 3, w - 2, w - 1, w}
	l = slices.DeleteFunc(l, func(n int) bool { return n < 0 || n > w })
	slices.Sort(l)
	return slices.Compact(l)
}

// divisors are the numbers that w, above 0, is a multiple of.
func divisors(w int) []int {
	var l []int
	for d := 1; d <= w; d++ {
		if w%d == 0 {
			l = append(l, d)
		}
	}
	return l
}

func TestExamples(t *testing.T) {
	wantPlaces(t, 3, 8, 16, []int{8, 10, 13}, api.OK)
	wantShares(t, 3, 8, 16, 2, []int{2, 1})
	wantShares(t, 3, 8, 16, 4, []int{1, 1, 1, 0})
	wantRank(t, 3, 8, 16, 13, 2, api.OK)
}

func TestByNumber(t *testing.T) {
	wantPlaces(t, 0, 8, 16, nil, api.OK)
	wantPlaces(t, 1, 8, 16, []int{8}, api.OK)
	wantPlaces(t, 2, 8, 16, []int{8, 12}, api.OK)
	wantPlaces(t, 7, 8, 16, []int{8, 9, 10, 11, 12, 13, 14}, api.OK)
	wantPlaces(t, 8, 8, 16, []int{8, 9, 10, 11, 12, 13, 14, 15}, api.OK)
	wantPlaces(t, 9, 8, 16, nil, api.ErrArg)
	wantPlaces(t, 3, 5, 9, []int{5, 6, 7}, api.OK)
	wantPlaces(t, 3, 0, 65536, []int{0, 21845, 43690}, api.OK)
	wantPlaces(t, 4, 65529, 65536, []int{65529, 65530, 65532, 65534}, api.OK)
	wantPlaces(t, 1, 65535, 65536, []int{65535}, api.OK)
	wantShares(t, 0, 8, 16, 4, []int{0, 0, 0, 0})
	wantShares(t, 3, 8, 16, 1, []int{3})
	wantShares(t, 3, 8, 16, 8, []int{1, 0, 1, 0, 0, 1, 0, 0})
	wantShares(t, 5, 3, 12, 3, []int{2, 2, 1})
	wantShare(t, 3, 8, 16, 3, 0, 0, api.ErrArg)
	wantShare(t, 65535, 0, 65536, 2, 0, 32768, api.OK)
	wantShare(t, 65535, 0, 65536, 2, 1, 32767, api.OK)
	wantShare(t, 65535, 0, 65536, 65536, 65535, 0, api.OK)
	wantShare(t, 65536, 0, 65536, 65536, 65535, 1, api.OK)
	wantRank(t, 3, 8, 16, 8, 0, api.OK)
	wantRank(t, 3, 8, 16, 9, 1, api.OK)
	wantRank(t, 3, 8, 16, 10, 1, api.OK)
	wantRank(t, 3, 8, 16, 11, 2, api.OK)
	wantRank(t, 3, 8, 16, 14, 3, api.OK)
	wantRank(t, 3, 8, 16, 16, 3, api.OK)
	wantRank(t, 0, 8, 16, 16, 0, api.OK)
	wantRank(t, 65536, 0, 65536, 65536, 65536, api.OK)
	wantRank(t, 65536, 0, 65536, 65535, 65535, api.OK)
	wantRank(t, 65535, 0, 65536, 65535, 65535, api.OK)
}

// P7.1: each number of things over each small width.
func TestPlaces(t *testing.T) {
	for _, s := range smallSpans(70) {
		for n := range s.to - s.from + 1 {
			wantPlaces(t, n, s.from, s.to, plainPlaces(n, s.from, s.to), api.OK)
		}
	}
}

// P7.1: many slots, up to all of them.
func TestPlacesOfMany(t *testing.T) {
	for _, s := range greatSpans() {
		for _, n := range numbersOf(s.to - s.from) {
			wantPlaces(t, n, s.from, s.to, plainPlaces(n, s.from, s.to), api.OK)
		}
	}
}

// P7.2: each part of all that may be, over each small width.
func TestShare(t *testing.T) {
	for _, s := range smallSpans(40) {
		for n := range s.to - s.from + 1 {
			marks := plainMarks(n, s.from, s.to)
			for _, parts := range divisors(s.to - s.from) {
				wantShares(t, n, s.from, s.to, parts, plainShares(marks, parts))
			}
		}
	}
}

// P7.2: many slots, from one part up to a part a slot.
func TestShareOfMany(t *testing.T) {
	for _, s := range greatSpans() {
		w := s.to - s.from
		l := divisors(w)
		for _, n := range numbersOf(w) {
			marks := plainMarks(n, s.from, s.to)
			for _, parts := range []int{1, l[min(1, len(l)-1)], l[len(l)/2], w} {
				wantShares(t, n, s.from, s.to, parts, plainShares(marks, parts))
			}
		}
	}
}

// P7.2: each slot, and the one behind all, over each small width.
func TestRank(t *testing.T) {
	for _, s := range smallSpans(50) {
		for n := range s.to - s.from + 1 {
			for i, rank := range plainRanks(plainMarks(n, s.from, s.to)) {
				wantRank(t, n, s.from, s.to, s.from+i, rank, api.OK)
			}
		}
	}
}

// P7.2: each of many slots.
func TestRankOfMany(t *testing.T) {
	for _, s := range greatSpans() {
		for _, n := range numbersOf(s.to - s.from) {
			for i, rank := range plainRanks(plainMarks(n, s.from, s.to)) {
				wantRank(t, n, s.from, s.to, s.from+i, rank, api.OK)
			}
		}
	}
}

// P7.1, P7.2: where there are no slots, there are no things, and any number of parts has none.
func TestNoSlots(t *testing.T) {
	for _, end := range []int{0, 1, 8, 65535, 65536} {
		wantPlaces(t, 0, end, end, nil, api.OK)
		wantRank(t, 0, end, end, end, 0, api.OK)
		for _, parts := range []int{1, 2, 3, 65536, 65537, 1 << 32, greatest - 1, greatest} {
			for _, k := range []int{0, parts / 2, parts - 1} {
				wantShare(t, 0, end, end, parts, k, 0, api.OK)
			}
			for _, k := range []int{least, -1, parts} {
				wantShare(t, 0, end, end, parts, k, 0, api.ErrArg)
			}
		}
		for _, parts := range []int{least, -1, 0} {
			for _, k := range []int{least, parts - 1, parts, -1, 0} {
				wantShare(t, 0, end, end, parts, k, 0, api.ErrArg)
			}
		}
		for _, at := range []int{least, end - 1, end + 1, greatest} {
			wantRank(t, 0, end, end, at, 0, api.ErrArg)
		}
		for _, n := range []int{least, -1, 1, greatest} {
			wantRefused(t, n, end, end)
		}
	}
}

// P7.1, P7.2: ends beyond what may be, and the first one above the last one.
func TestEndsRefused(t *testing.T) {
	outside := []int{least, least + 1, -most, -1 << 32, -8, -2, -1, 65537, 65538, 131072, 1 << 32, 1<<32 + 8, greatest - 1, greatest}
	for _, end := range outside {
		for _, other := range []int{0, 1, 8, 65535, 65536, end} {
			for _, n := range []int{-1, 0, 1, 8, 65536} {
				wantRefused(t, n, end, other)
				wantRefused(t, n, other, end)
			}
		}
	}
	for _, s := range []span{{1, 0}, {9, 8}, {16, 8}, {65536, 65535}, {65536, 0}} {
		for _, n := range []int{s.to - s.from - 1, s.to - s.from, -1, 0, 1, s.from - s.to} {
			wantRefused(t, n, s.from, s.to)
		}
	}
}

// P7.1, P7.2: both ends of what may be are taken.
func TestEndsTaken(t *testing.T) {
	for _, s := range []span{{0, 0}, {0, 1}, {0, 65535}, {0, 65536}, {1, 65536}, {65535, 65536}, {65536, 65536}} {
		w := s.to - s.from
		wantPlaces(t, w, s.from, s.to, plainPlaces(w, s.from, s.to), api.OK)
		wantShare(t, w, s.from, s.to, 1, 0, w, api.OK)
		wantRank(t, w, s.from, s.to, s.from, 0, api.OK)
		wantRank(t, w, s.from, s.to, s.to, w, api.OK)
	}
}

// P7.1, P7.2: fewer things than none, and more than slots.
func TestNumbersRefused(t *testing.T) {
	for _, s := range append(smallSpans(20), greatSpans()...) {
		w := s.to - s.from
		for _, n := range []int{least, least + 1, -most, -w - 1, -2, -1, w + 1, w + 2, 2*w + 1, 65537, 1 << 32, 1<<32 + w, greatest - 1, greatest} {
			wantRefused(t, n, s.from, s.to)
		}
	}
}

// P7.2: numbers of parts that the slots are no multiple of, and none, and below.
func TestPartsRefused(t *testing.T) {
	for _, s := range append(smallSpans(40), greatSpans()...) {
		w := s.to - s.from
		if w == 0 {
			continue
		}
		for _, parts := range []int{least, least + 1, -most, -w, -2, -1, 0, w - 1, w/2 + 1, 3, 7, 11, w + 1, 2 * w, 65537, 1 << 32, greatest - 1, greatest} {
			if parts > 0 && w%parts == 0 {
				continue
			}
			for _, n := range []int{0, 1, w} {
				for _, k := range []int{least, parts - 1, -1, 0, 1, w - 1} {
					wantShare(t, n, s.from, s.to, parts, k, 0, api.ErrArg)
				}
			}
		}
	}
}

// P7.2: parts below the first one, and beyond the last one.
func TestPartRefused(t *testing.T) {
	for _, s := range smallSpans(40) {
		w := s.to - s.from
		for _, parts := range divisors(w) {
			for _, n := range []int{0, 1, w} {
				for _, k := range []int{least, least + 1, -parts, -2, -1, parts, parts + 1, 2 * parts, 65536, 1 << 32, greatest - 1, greatest} {
					wantShare(t, n, s.from, s.to, parts, k, 0, api.ErrArg)
				}
			}
		}
	}
}

// P7.2: slots ahead of all, and beyond the one behind them.
func TestSlotRefused(t *testing.T) {
	for _, s := range append(smallSpans(40), greatSpans()...) {
		for _, n := range []int{0, (s.to - s.from) / 2, s.to - s.from} {
			for _, at := range []int{least, least + 1, -most, s.from - 2, s.from - 1, s.to + 1, s.to + 2, 65537, 1 << 32, 1<<32 + s.from, greatest - 1, greatest} {
				wantRank(t, n, s.from, s.to, at, 0, api.ErrArg)
			}
		}
	}
}

// named are numbers at all edges, the least and the greatest ones among them.
func named() []int {
	return []int{least, least + 1, -65537, -1, 0, 1, 2, 3, 8, 65535, 65536, 65537, greatest - 1, greatest}
}

// P1, P2: each named number in each place, with each in the others.
func TestNamedPlacesAndRanks(t *testing.T) {
	for _, n := range named() {
		for _, from := range named() {
			for _, to := range named() {
				if !plainMayBe(n, from, to) {
					wantRefused(t, n, from, to)
					continue
				}
				wantPlaces(t, n, from, to, plainPlaces(n, from, to), api.OK)
				ranks := plainRanks(plainMarks(n, from, to))
				for _, at := range named() {
					if from <= at && at <= to {
						wantRank(t, n, from, to, at, ranks[at-from], api.OK)
					} else {
						wantRank(t, n, from, to, at, 0, api.ErrArg)
					}
				}
			}
		}
	}
}

// P1, P2: each named number in each place of Share; with things, each part's share is counted.
func TestNamedShares(t *testing.T) {
	for _, n := range named() {
		for _, from := range named() {
			for _, to := range named() {
				if plainMayBe(n, from, to) {
					wantNamedShares(t, n, from, to)
				}
			}
		}
	}
}

func wantNamedShares(t *testing.T, n, from, to int) {
	t.Helper()
	w := to - from
	marks := plainMarks(n, from, to)
	for _, parts := range named() {
		fits := parts > 0 && w%parts == 0
		var shares []int
		if fits && w > 0 {
			shares = plainShares(marks, parts)
		}
		for _, k := range named() {
			switch {
			case !fits || k < 0 || k >= parts:
				wantShare(t, n, from, to, parts, k, 0, api.ErrArg)
			case w == 0:
				wantShare(t, n, from, to, parts, k, 0, api.OK)
			default:
				wantShare(t, n, from, to, parts, k, shares[k], api.OK)
			}
		}
	}
}

// P7.3: a list that is written into, the room behind it too, leaves others, answered ahead and behind, as they were.
func TestNewMemory(t *testing.T) {
	for _, s := range append(smallSpans(30), greatSpans()...) {
		for _, n := range numbersOf(s.to - s.from) {
			want := plainPlaces(n, s.from, s.to)
			first, _ := Places(n, s.from, s.to)
			second, _ := Places(n, s.from, s.to)
			first = first[:cap(first)]
			for i := range first {
				first[i] = -7
			}
			if !slices.Equal(second, want) {
				t.Errorf("Places(%d, %d, %d) answers shared memory", n, s.from, s.to)
			}
			wantPlaces(t, n, s.from, s.to, want, api.OK)
			wantRank(t, n, s.from, s.to, s.to, n, api.OK)
		}
	}
}

func mustPlaces(t *testing.T, n, from, to int) []int {
	t.Helper()
	l, e := Places(n, from, to)
	if e != api.OK || len(l) != n {
		t.Fatalf("Places(%d, %d, %d): %d places, %d", n, from, to, len(l), int(e))
	}
	return l
}

// P7.4: places rise, all of them slots; two neighbours lie w / n apart, rounded down or up.
func TestPlacesRise(t *testing.T) {
	for _, s := range append(smallSpans(60), greatSpans()...) {
		w := s.to - s.from
		for _, n := range numbersOf(w) {
			l := mustPlaces(t, n, s.from, s.to)
			for i, place := range l {
				if place < s.from || place >= s.to {
					t.Fatalf("of %d over %v: place %d is %d", n, s, i, place)
				}
				if i == 0 {
					continue
				}
				if apart := place - l[i-1]; apart < 1 || apart < w/n || apart > (w+n-1)/n {
					t.Fatalf("of %d over %v: places %d and %d lie %d apart", n, s, i-1, i, apart)
				}
			}
		}
	}
}

// P7.4: each part has n / parts, rounded down or up; shares add up to n.
func TestSharesAddUp(t *testing.T) {
	for _, s := range append(smallSpans(60), greatSpans()...) {
		w := s.to - s.from
		for _, n := range numbersOf(w) {
			for _, parts := range append(divisors(w), 1) {
				all := 0
				for k := range parts {
					share, e := Share(n, s.from, s.to, parts, k)
					if e != api.OK || share < n/parts || share > (n+parts-1)/parts {
						t.Fatalf("Share(%d, %d, %d, %d, %d) = %d, %d", n, s.from, s.to, parts, k, share, int(e))
					}
					all += share
				}
				if all != n {
					t.Fatalf("of %d over %v: the shares of %d parts are %d", n, s, parts, all)
				}
			}
		}
	}
}

// P7.1, P7.2: the three calls tell the same places: ahead of each place lie those with lower numbers, and a part's share lies between the ranks of its ends.
func TestCallsAgree(t *testing.T) {
	for _, s := range append(smallSpans(60), greatSpans()...) {
		w := s.to - s.from
		for _, n := range numbersOf(w) {
			for i, place := range mustPlaces(t, n, s.from, s.to) {
				wantRank(t, n, s.from, s.to, place, i, api.OK)
				wantRank(t, n, s.from, s.to, place+1, i+1, api.OK)
			}
			l := divisors(w)
			for _, parts := range l[:len(l)/2] {
				width := w / parts
				for k := range parts {
					low, _ := Rank(n, s.from, s.to, s.from+k*width)
					high, _ := Rank(n, s.from, s.to, s.from+(k+1)*width)
					wantShare(t, n, s.from, s.to, parts, k, high-low, api.OK)
				}
			}
		}
	}
}
