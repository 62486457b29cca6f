package handle

import (
	"testing"

	"shelfmark/api"
)

// walk is a table under way, told by its own answers alone: the program's, where each handle is that was given out and stays, and those that were dropped.
type walk struct {
	t    *testing.T
	x    api.Handles
	at   map[api.Handle]int
	out  []api.Handle
	gone []api.Handle
}

func begun(t *testing.T, p plain) *walk {
	w := &walk{t: t, x: p.packed(), at: map[api.Handle]int{}}
	for _, h := range p.out() {
		w.at[h] = p[h.Number].at
		w.out = append(w.out, h)
	}
	return w
}

// make asks for a handle; it is none that was there, nor one that was dropped.
func (w *walk) make(at int) {
	w.t.Helper()
	x, h, e := Make(w.x, at)
	if e == api.ErrFull && len(w.x.Gens) == most {
		return
	}
	if e != api.OK {
		w.t.Fatalf("Make at %d: %d", at, int(e))
	}
	if _, is := w.at[h]; is {
		w.t.Fatalf("Make at %d: %v, which is out", at, h)
	}
	for _, other := range w.gone {
		if other == h {
			w.t.Fatalf("Make at %d: %v, which was dropped", at, h)
		}
	}
	w.x, w.at[h], w.out = x, at, append(w.out, h)
}

func (w *walk) set(k, at int) {
	w.t.Helper()
	x, e := Set(w.x, w.out[k], at)
	if e != api.OK {
		w.t.Fatalf("Set of %v: %d", w.out[k], int(e))
	}
	w.x, w.at[w.out[k]] = x, at
}

func (w *walk) drop(k int) {
	w.t.Helper()
	h := w.out[k]
	x, e := Drop(w.x, h)
	if e != api.OK {
		w.t.Fatalf("Drop of %v: %d", h, int(e))
	}
	delete(w.at, h)
	w.x, w.gone = x, append(w.gone, h)
	w.out[k] = w.out[len(w.out)-1]
	w.out = w.out[:len(w.out)-1]
}

// hold asks that the table may be, that each handle that stays is found where it is, and that none that was dropped is found, set or dropped.
func (w *walk) hold() {
	w.t.Helper()
	if e := Check(w.x); e != api.OK {
		w.t.Fatalf("%v may not be: %d", short(w.x), int(e))
	}
	if n, e := Live(w.x); n != len(w.at) || e != api.OK {
		w.t.Fatalf("Live: %d, %d; want %d", n, int(e), len(w.at))
	}
	for _, h := range w.out {
		if at, e := Find(w.x, h); at != w.at[h] || e != api.OK {
			w.t.Fatalf("Find of %v: %d, %d; want %d", h, at, int(e), w.at[h])
		}
	}
	for i, h := range w.gone {
		at, e := Find(w.x, h)
		if at != 0 || e != api.ErrHandle {
			w.t.Fatalf("Find of %v, which was dropped: %d, %d", h, at, int(e))
		}
		if i%7 > 0 {
			continue
		}
		x, e := Set(w.x, h, 4)
		wantTable(w.t, x, e, nil, api.ErrHandle, "Set of one that was dropped", h)
		x, e = Drop(w.x, h)
		wantTable(w.t, x, e, nil, api.ErrHandle, "Drop of one that was dropped", h)
	}
}

// step turns the table by one of three calls, so that it grows and shrinks in turn.
func (w *walk) step(i int, next func(int) int) {
	w.t.Helper()
	growing := i/60%2 == 0
	switch {
	case len(w.out) == 0 || next(10) < 3 || growing && next(10) < 5:
		w.make(next(1000))
	case next(10) < 3:
		w.set(next(len(w.out)), next(1000))
	default:
		w.drop(next(len(w.out)))
	}
}

// P14.5: rows of mixed steps, from nothing and from tables of all kinds: handles that stay are found where they are, dropped ones never, and no handle is another one's.
func TestMixedRows(t *testing.T) {
	for i, p := range append([]plain{nil, nil, nil, {{lastGen - 3, -1}, {lastGen - 1, 2}}}, middleTables()...) {
		next := mixer(uint64(i) + 3)
		w := begun(t, p)
		for k := range 240 {
			w.step(k, next)
			if k%3 == 0 {
				w.hold()
			}
		}
		w.hold()
	}
}

// P14.5: one number that is given out and dropped again and again, up to its last generation, and then another one.
func TestRowOfOneNumber(t *testing.T) {
	for _, from := range []int{0, lastGen - 40} {
		w := begun(t, plain{{from, -1}})
		for i := range 60 {
			w.make(i)
			w.hold()
			want := api.Handle{Gen: from + i}
			if want.Gen >= lastGen {
				want = api.Handle{Number: 1, Gen: i - (lastGen - from)}
			}
			if w.out[0] != want {
				t.Fatalf("round %d: %v; want %v", i, w.out[0], want)
			}
			w.drop(0)
			w.hold()
		}
	}
}

// P14.5: a table that is filled up to MaxSlots, and goes on as numbers come back.
func TestRowAtTheLimit(t *testing.T) {
	w := begun(t, repeated(most-2, cell{3, 8}))
	for range 5 {
		w.make(4)
	}
	if len(w.x.Gens) != most || len(w.out) != most {
		t.Fatalf("%d numbers, %d out; want %d", len(w.x.Gens), len(w.out), most)
	}
	for _, k := range []int{0, 400, most - 3} {
		h := w.out[k]
		w.drop(k)
		w.make(9)
		if got, want := w.out[len(w.out)-1], (api.Handle{Number: h.Number, Gen: h.Gen + 1}); got != want {
			t.Errorf("behind a drop of %v: %v; want %v", h, got, want)
		}
		if at, e := Find(w.x, h); at != 0 || e != api.ErrHandle {
			t.Errorf("Find of %v: %d, %d", h, at, int(e))
		}
	}
}

// P14.5: two tables that are turned in turns answer as each of them by itself: nothing is kept from call to call.
func TestTwoInTurns(t *testing.T) {
	one, other, alone := begun(t, nil), begun(t, plain{{7, -1}, {lastGen - 1, 4}}), begun(t, nil)
	next, beside, again := mixer(9), mixer(10), mixer(9)
	for i := range 200 {
		one.step(i, next)
		other.step(i, beside)
	}
	for i := range 200 {
		alone.step(i, again)
	}
	if !alike(one.x, alone.x) {
		t.Errorf("beside another table: %v; alone: %v", short(one.x), short(alone.x))
	}
	one.hold()
	other.hold()
}
