package crc

import (
	"bytes"
	"hash/crc32"
	"math"
	"testing"

	"shelfmark/api"
)

const (
	least    = math.MinInt64
	greatest = math.MaxInt64
	allBits  = uint32(0xffffffff)
	highBit  = uint32(1) << 31
)

// mixer makes numbers that look mixed, the same ones in each run.
func mixer(seed uint64) func() uint32 {
	return func() uint32 {
		seed = seed*6364136223846793005 + 1442695040888963407
		return uint32(seed >> 32)
	}
}

// mixed is n bytes of a seed.
func mixed(n int, seed uint64) []byte {
	next := mixer(seed)
	b := make([]byte, n)
	for i := range b {
		b[i] = byte(next() >> 7)
	}
	return b
}

// texts are bytes of many lengths: none, a list without elements, zeros, all bits set, one bit alone, and mixed ones.
func texts() [][]byte {
	l := [][]byte{nil, {}, []byte("a"), []byte("123456789"), {0}, {0xff}, make([]byte, 9), bytes.Repeat([]byte{0xff}, 9)}
	for bit := range 8 {
		l = append(l, []byte{1 << bit}, []byte{0, 1 << bit, 0})
	}
	for n := range 40 {
		l = append(l, mixed(n, uint64(n)+1))
	}
	return append(l, mixed(1000, 1000))
}

// starts are sums under way.
func starts() []uint32 {
	return []uint32{0, 1, 2, highBit, 0x7fffffff, 0xedb88320, 0x12345678, allBits - 1, allBits}
}

// masks are of no bit, of one, of some, of all.
func masks() []uint32 {
	l := []uint32{0, 3, 0x101, 0x8001, 0xa5a5a5a5, 0x80000001, 0xc0000000, 0x7fffffff, allBits - 1, allBits}
	for k := range 32 {
		l = append(l, 1<<k)
	}
	return l
}

// plainGo is a sum under way behind bytes, told bit by bit as a list of bools, by the definition's words alone.
func plainGo(s uint32, b []byte) uint32 {
	var sum, turn [32]bool
	for k := range 32 {
		sum[k] = s>>k&1 == 1
		turn[k] = uint32(0xedb88320)>>k&1 == 1
	}
	for _, x := range b {
		for k := range 8 {
			unlike := sum[0] != (x>>k&1 == 1)
			copy(sum[:], sum[1:])
			sum[31] = false
			for j := range sum {
				sum[j] = sum[j] != (unlike && turn[j])
			}
		}
	}
	var out uint32
	for k, is := range sum {
		if is {
			out |= 1 << k
		}
	}
	return out
}

// plainBurst is what P3.3 says, told by a list of bools: nothing is added to at that may run over.
func plainBurst(t []byte, at int, mask uint32) ([]byte, api.Errno) {
	if len(t) > api.MaxText {
		return nil, api.ErrMany
	}
	if at < 0 {
		return nil, api.ErrArg
	}
	var bits []bool
	for _, x := range t {
		for k := range 8 {
			bits = append(bits, x>>k&1 == 1)
		}
	}
	for k := range 32 {
		if mask>>k&1 == 0 {
			continue
		}
		if at >= len(bits) || k >= len(bits)-at {
			return nil, api.ErrArg
		}
		bits[at+k] = !bits[at+k]
	}
	out := make([]byte, len(t))
	for i, is := range bits {
		if is {
			out[i/8] |= 1 << (i % 8)
		}
	}
	return out, api.OK
}

func wantSum(t *testing.T, s uint32, e api.Errno, want uint32, wantE api.Errno, what string, args ...any) {
	t.Helper()
	if s != want || e != wantE {
		t.Errorf("%s%v = %08x, %d; want %08x, %d", what, args, s, int(e), want, int(wantE))
	}
}

func wantBytes(t *testing.T, b []byte, e api.Errno, want []byte, wantE api.Errno, what string, args ...any) {
	t.Helper()
	if !bytes.Equal(b, want) || e != wantE {
		t.Errorf("%s%v = %d bytes, %d; want %d bytes, %d", what, args, len(b), int(e), len(want), int(wantE))
	}
}

func mustSeal(t *testing.T, b []byte) []byte {
	t.Helper()
	sealed, e := Seal(b)
	if e != api.OK {
		t.Fatalf("Seal of %d bytes: %d", len(b), int(e))
	}
	return sealed
}

func TestExamples(t *testing.T) {
	for text, want := range map[string]uint32{"123456789": 0xcbf43926, "": 0, "a": 0xe8b7be43} {
		s, e := Of([]byte(text))
		wantSum(t, s, e, want, api.OK, "Of", text)
	}
	sealed, e := Seal(nil)
	wantBytes(t, sealed, e, []byte{0, 0, 0, 0}, api.OK, "Seal")
}

// P3.1: the sum under way, by the definition's words and by the library's own sum.
func TestGo(t *testing.T) {
	for _, b := range texts() {
		for _, s := range starts() {
			got, e := Go(s, b)
			wantSum(t, got, e, plainGo(s, b), api.OK, "Go", s, b)
			wantSum(t, got, e, ^crc32.Update(^s, crc32.IEEETable, b), api.OK, "Go", s, b)
		}
	}
}

// P3.1: one bit at a time, of a sum of each bit.
func TestGoOfEachByte(t *testing.T) {
	for x := range 256 {
		b := []byte{byte(x)}
		for k := range 32 {
			s := uint32(1) << k
			got, e := Go(s, b)
			wantSum(t, got, e, plainGo(s, b), api.OK, "Go", s, b)
		}
	}
}

// P3.1: no bytes, none or a list without elements, leave a sum under way as it is.
func TestGoOfNoBytes(t *testing.T) {
	for _, s := range starts() {
		for _, b := range [][]byte{nil, {}} {
			got, e := Go(s, b)
			wantSum(t, got, e, s, api.OK, "Go", s, b)
		}
	}
}

func TestOf(t *testing.T) {
	for _, b := range texts() {
		s, e := Of(b)
		wantSum(t, s, e, crc32.ChecksumIEEE(b), api.OK, "Of", b)
		under, _ := Go(allBits, b)
		wantSum(t, s, e, ^under, api.OK, "Of", b)
	}
}

// P3.2: the bytes, and the sum behind them, its lowest byte first.
func TestSeal(t *testing.T) {
	sealed, e := Seal([]byte("123456789"))
	wantBytes(t, sealed, e, []byte("123456789\x26\x39\xf4\xcb"), api.OK, "Seal", "123456789")
	for _, b := range texts() {
		s := crc32.ChecksumIEEE(b)
		want := append(bytes.Clone(b), byte(s), byte(s>>8), byte(s>>16), byte(s>>24))
		sealed, e := Seal(b)
		wantBytes(t, sealed, e, want, api.OK, "Seal", b)
		opened, e := Open(want)
		wantBytes(t, opened, e, b, api.OK, "Open", want)
	}
}

// P3.2: fewer bytes than a sum has are never sealed.
func TestOpenOfFewBytes(t *testing.T) {
	for n := range 4 {
		for _, b := range [][]byte{make([]byte, n), mixed(n, 7), bytes.Repeat([]byte{0xff}, n)} {
			got, e := Open(b)
			wantBytes(t, got, e, nil, api.ErrBad, "Open", b)
		}
	}
	got, e := Open(nil)
	wantBytes(t, got, e, nil, api.ErrBad, "Open", nil)
	got, e = Open(make([]byte, 4))
	wantBytes(t, got, e, nil, api.OK, "Open of four zeros")
}

// P3.2: each byte of the rest and of the sum, turned to each other one.
func TestOpenOfTurnedBytes(t *testing.T) {
	for _, n := range []int{0, 1, 2, 5, 17} {
		sealed := mustSeal(t, mixed(n, 3))
		for i := range sealed {
			for turn := 1; turn < 256; turn++ {
				b := bytes.Clone(sealed)
				b[i] ^= byte(turn)
				got, e := Open(b)
				wantBytes(t, got, e, nil, api.ErrBad, "Open", n, i, turn)
			}
		}
	}
}

// P3.2: a sum the other way round, one that is not turned over, one of more or fewer bytes.
func TestOpenOfOtherSums(t *testing.T) {
	for _, b := range [][]byte{
		[]byte("123456789\xcb\xf4\x39\x26"),
		[]byte("123456789\xd9\xc6\x0b\x34"),
		[]byte("123456789\x26\x39\xf4"),
		[]byte("123456789\x26\x39\xf4\xcb\x00"),
		[]byte("\x26\x39\xf4\xcb123456789"),
		[]byte("123456789"),
		{0, 0, 0, 0, 0},
		{0xff, 0xff, 0xff, 0xff, 0xff},
	} {
		got, e := Open(b)
		wantBytes(t, got, e, nil, api.ErrBad, "Open", b)
	}
	got, e := Open([]byte{0xff, 0xff, 0xff, 0xff, 0xff, 0xff, 0xff, 0xff})
	wantBytes(t, got, e, bytes.Repeat([]byte{0xff}, 4), api.OK, "Open of eight bytes of all bits, which are sealed")
}

// P3.2: whatever bytes are taken are made again by sealing what was answered.
func TestOpenTakesWhatSealMakes(t *testing.T) {
	for _, b := range texts() {
		opened, e := Open(b)
		switch e {
		case api.OK:
			wantBytes(t, mustSeal(t, opened), e, b, api.OK, "Seal behind Open", b)
		case api.ErrBad:
			if len(opened) != 0 {
				t.Errorf("Open of %v answers %v beside an error", b, opened)
			}
		default:
			t.Errorf("Open of %v: %d", b, int(e))
		}
	}
}

// places are bits at and around the ends of n bytes, and those from which a mask just reaches or does not.
func places(n int) []int {
	l := []int{least, least + 1, -1 << 32, -33, -32, -31, -8, -1, 1 << 31, 1 << 32, 1 << 61, greatest - 32, greatest - 31, greatest - 30, greatest - 1, greatest}
	for at := 0; at <= n*8+40; at++ {
		l = append(l, at)
	}
	return l
}

// P3.3: each place of each mask.
func TestBurst(t *testing.T) {
	for _, n := range []int{0, 1, 2, 3, 4, 5, 9} {
		b := mixed(n, 11)
		for _, at := range places(n) {
			for _, mask := range masks() {
				want, wantE := plainBurst(b, at, mask)
				got, e := Burst(b, at, mask)
				wantBytes(t, got, e, want, wantE, "Burst", n, at, mask)
			}
		}
	}
}

// P3.3 by hand: which bits are turned, and which are beyond.
func TestBurstByHand(t *testing.T) {
	b := []byte{0x00, 0xff, 0x0f}
	for _, x := range []struct {
		at   int
		mask uint32
		want []byte
	}{
		{0, 1, []byte{0x01, 0xff, 0x0f}},
		{7, 1, []byte{0x80, 0xff, 0x0f}},
		{7, 3, []byte{0x80, 0xfe, 0x0f}},
		{8, 0xff, []byte{0x00, 0x00, 0x0f}},
		{0, 0xffffff, []byte{0xff, 0x00, 0xf0}},
		{23, 1, []byte{0x00, 0xff, 0x8f}},
		{22, 2, []byte{0x00, 0xff, 0x8f}},
		{0, 0, b},
		{23, 0, b},
		{24, 0, b},
		{25, 0, b},
		{greatest, 0, b},
		{5, 0x80, []byte{0x00, 0xef, 0x0f}},
		{16, 0x80, []byte{0x00, 0xff, 0x8f}},
	} {
		got, e := Burst(b, x.at, x.mask)
		wantBytes(t, got, e, x.want, api.OK, "Burst", x.at, x.mask)
	}
	for _, x := range []struct {
		at   int
		mask uint32
	}{
		{-1, 0}, {-1, 1}, {-1, 2}, {-32, highBit}, {least, 0}, {least, allBits},
		{24, 1}, {23, 2}, {23, 3}, {16, 0x100}, {0, 0x1000000}, {0, highBit}, {0, allBits}, {17, 0x80},
		{greatest, 1}, {greatest, 2}, {greatest, allBits}, {greatest - 31, highBit}, {greatest - 30, highBit},
	} {
		got, e := Burst(b, x.at, x.mask)
		wantBytes(t, got, e, nil, api.ErrArg, "Burst", x.at, x.mask)
	}
}

// P3.3: of no bytes, none or a list without elements, no bit can be turned.
func TestBurstOfNoBytes(t *testing.T) {
	for _, b := range [][]byte{nil, {}} {
		for _, at := range []int{0, 1, 32, greatest} {
			got, e := Burst(b, at, 0)
			wantBytes(t, got, e, nil, api.OK, "Burst", at, 0)
			for _, mask := range []uint32{1, highBit, allBits} {
				got, e := Burst(b, at, mask)
				wantBytes(t, got, e, nil, api.ErrArg, "Burst", at, mask)
			}
		}
		got, e := Burst(b, -1, 0)
		wantBytes(t, got, e, nil, api.ErrArg, "Burst", -1, 0)
	}
}

// P3.3: a burst twice is none.
func TestBurstTwice(t *testing.T) {
	b := mixed(9, 21)
	for at := range len(b)*8 - 31 {
		for _, mask := range masks() {
			once, e := Burst(b, at, mask)
			if e != api.OK || bytes.Equal(once, b) != (mask == 0) {
				t.Fatalf("Burst at %d by %x: %d", at, mask, int(e))
			}
			twice, e := Burst(once, at, mask)
			wantBytes(t, twice, e, b, api.OK, "Burst twice", at, mask)
		}
	}
}

// All: MaxText bytes are taken by each call.
func TestMostBytes(t *testing.T) {
	b := mixed(api.MaxText, 5)
	for _, s := range []uint32{0, allBits} {
		got, e := Go(s, b)
		wantSum(t, got, e, ^crc32.Update(^s, crc32.IEEETable, b), api.OK, "Go of the most", s)
	}
	sum := crc32.ChecksumIEEE(b)
	s, e := Of(b)
	wantSum(t, s, e, sum, api.OK, "Of the most")
	sealed, e := Seal(b)
	wantBytes(t, sealed, e, append(bytes.Clone(b), byte(sum), byte(sum>>8), byte(sum>>16), byte(sum>>24)), api.OK, "Seal of the most")
	opened, e := Open(b)
	wantBytes(t, opened, e, nil, api.ErrBad, "Open of the most")
	text := mustSeal(t, b[:api.MaxText-4])
	opened, e = Open(text)
	wantBytes(t, opened, e, b[:api.MaxText-4], api.OK, "Open of the most")

	last := api.MaxText*8 - 1
	turned, e := Burst(b, last, 1)
	want := bytes.Clone(b)
	want[api.MaxText-1] ^= 0x80
	wantBytes(t, turned, e, want, api.OK, "Burst of the most", last)
	turned, e = Burst(b, last-31, highBit)
	wantBytes(t, turned, e, want, api.OK, "Burst of the most", last-31)
	turned, e = Burst(b, last+1, 0)
	wantBytes(t, turned, e, b, api.OK, "Burst of the most", last+1)
	turned, e = Burst(b, last-30, highBit)
	wantBytes(t, turned, e, nil, api.ErrArg, "Burst of the most", last-30)
	turned, e = Burst(b, last+1, 1)
	wantBytes(t, turned, e, nil, api.ErrArg, "Burst of the most", last+1)
}

// All and P1: one byte more is too many, of each call, whatever else is wrong.
func TestTooManyBytes(t *testing.T) {
	sealed := mustSeal(t, make([]byte, api.MaxText-3)) // sealed bytes, but one too many of them
	for _, b := range [][]byte{make([]byte, api.MaxText+1), sealed, make([]byte, 2*api.MaxText)} {
		for _, s := range starts() {
			got, e := Go(s, b)
			wantSum(t, got, e, 0, api.ErrMany, "Go", s, len(b))
		}
		s, e := Of(b)
		wantSum(t, s, e, 0, api.ErrMany, "Of", len(b))
		got, e := Seal(b)
		wantBytes(t, got, e, nil, api.ErrMany, "Seal", len(b))
		got, e = Open(b)
		wantBytes(t, got, e, nil, api.ErrMany, "Open", len(b))
		for _, at := range []int{0, -1, least, greatest, len(b) * 8, len(b)*8 - 1} {
			for _, mask := range []uint32{0, 1, highBit, allBits} {
				got, e = Burst(b, at, mask)
				wantBytes(t, got, e, nil, api.ErrMany, "Burst", len(b), at, mask)
			}
		}
	}
}

// callAll calls everything with b, and answers every list that comes of it.
func callAll(b []byte, at int, mask uint32) [][]byte {
	Go(allBits, b)
	Of(b)
	sealed, _ := Seal(b)
	opened, _ := Open(b)
	turned, _ := Burst(b, at, mask)
	return [][]byte{sealed, opened, turned}
}

// turnAll turns each byte of b, and those of the room behind it.
func turnAll(b []byte) {
	b = b[:cap(b)]
	for i := range b {
		b[i] = ^b[i]
	}
}

// P3.4: what is handed in is only read, refused or not, and so is the room behind it.
func TestOnlyRead(t *testing.T) {
	for _, b := range append(texts(), mustSeal(t, nil), mustSeal(t, []byte("123456789"))) {
		roomy := append(make([]byte, 0, len(b)+8), b...)
		room := roomy[:cap(roomy)]
		before := bytes.Clone(room)
		for _, at := range []int{-1, 0, 1, len(b) * 4, len(b)*8 - 1, len(b) * 8, greatest} {
			for _, mask := range []uint32{0, 1, 0xff, allBits} {
				callAll(roomy, at, mask)
				if !bytes.Equal(room, before) {
					t.Fatalf("%d bytes were turned, at %d by %x", len(b), at, mask)
				}
			}
		}
	}
}

// P3.4: turning what was answered turns neither what was handed in nor another answer; turning what was handed in turns no answer.
func TestNewMemory(t *testing.T) {
	for _, b := range append(texts(), mustSeal(t, nil), mustSeal(t, []byte("123456789"))) {
		for _, mask := range []uint32{0, 1} {
			roomy := append(make([]byte, 0, len(b)+8), b...)
			want := callAll(bytes.Clone(b), 0, mask)
			first, second := callAll(roomy, 0, mask), callAll(roomy, 0, mask)
			for i := range first {
				turnAll(first[i])
				if !bytes.Equal(roomy, b) {
					t.Fatalf("answer %d of %d bytes is what was handed in", i, len(b))
				}
				for j := i + 1; j < len(first); j++ {
					wantBytes(t, first[j], api.OK, want[j], api.OK, "another answer", i, j)
				}
			}
			turnAll(roomy)
			for i := range second {
				wantBytes(t, second[i], api.OK, want[i], api.OK, "answer behind what was turned", i)
			}
		}
	}
}

// P3.5: a sum goes on behind parts, wherever they are parted.
func TestSumGoesOn(t *testing.T) {
	for _, b := range texts() {
		for _, s := range starts() {
			whole, _ := Go(s, b)
			for cut := range len(b) + 1 {
				part, e := Go(s, b[:cut])
				part, f := Go(part, b[cut:])
				if part != whole || e != api.OK || f != api.OK {
					t.Fatalf("behind %d and %d bytes: %08x; want %08x", cut, len(b)-cut, part, whole)
				}
			}
		}
	}
}

// together puts texts of one length together, bit by bit.
func together(a, b, c []byte) []byte {
	out := make([]byte, len(a))
	for i := range out {
		out[i] = a[i] ^ b[i] ^ c[i]
	}
	return out
}

// P3.5: sums of three texts, put together, are the sum of these put together.
func TestSumsOfThreeTexts(t *testing.T) {
	for _, n := range []int{0, 1, 2, 3, 4, 5, 31, 64, 1000} {
		for seed := range uint64(20) {
			a, b, c := mixed(n, 3*seed), mixed(n, 3*seed+1), mixed(n, 3*seed+2)
			sumA, _ := Of(a)
			sumB, _ := Of(b)
			sumC, _ := Of(c)
			got, e := Of(together(a, b, c))
			wantSum(t, got, e, sumA^sumB^sumC, api.OK, "Of three together", n, seed)
		}
	}
}

// P3.5: sealed bytes behind a burst that turns a bit are no sealed bytes, at each place that is one.
func TestBurstUnseals(t *testing.T) {
	next := mixer(99)
	for _, n := range []int{0, 1, 3, 4, 9, 40} {
		sealed := mustSeal(t, mixed(n, 31))
		for at := range len(sealed) * 8 {
			for _, mask := range append(masks(), next(), next(), next(), next()) {
				turned, e := Burst(sealed, at, mask)
				if e == api.ErrArg {
					continue
				}
				got, e := Open(turned)
				if mask == 0 {
					wantBytes(t, got, e, sealed[:n], api.OK, "Open behind no burst", n, at)
				} else {
					wantBytes(t, got, e, nil, api.ErrBad, "Open behind a burst", n, at, mask)
				}
			}
		}
	}
}

// P3.5: every mask of 16 bits, at each place of a short text.
func TestEveryShortBurstUnseals(t *testing.T) {
	sealed := mustSeal(t, []byte{0x5a})
	for at := range len(sealed) * 8 {
		for mask := uint32(1); mask < 1<<16; mask += 2 {
			turned, e := Burst(sealed, at, mask)
			if e == api.ErrArg {
				continue
			}
			if got, e := Open(turned); e != api.ErrBad || len(got) != 0 {
				t.Fatalf("Open behind a burst at %d by %x: %d", at, mask, int(e))
			}
		}
	}
}
