package frac

import (
	"math"
	"math/big"
	"testing"

	"shelfmark/api"
)

const (
	least    = math.MinInt64
	greatest = math.MaxInt64
	over     = 1 << 26 // the least number above 0 that is not small
)

// edges are numbers at which an answer or an error may turn.
func edges() []int {
	l := []int{0, 1, 2, 3, 7, over - 2, over - 1, over, over + 1, 1<<31 - 1, 1 << 31, 1<<32 - 1, 1 << 32, 1<<32 + 1, 3037000499, 3037000500, 1<<62 - 1, 1 << 62, 1<<62 + 1, greatest - 1, greatest}
	for _, n := range l[1:] {
		l = append(l, -n)
	}
	return append(l, least)
}

// smallEdges are small numbers, the least and the greatest among them.
func smallEdges() []int {
	return []int{-over + 1, -over + 2, -12345, -3, -2, -1, 0, 1, 2, 3, 5, 12345, over - 2, over - 1}
}

// notSmall are numbers that are just not small, or far from it.
func notSmall() []int {
	return []int{over, over + 1, -over, -over - 1, 1 << 32, greatest, least, least + 1}
}

func wide(n int) *big.Int { return big.NewInt(int64(n)) }

// crossSign is the sign of the cross product, worked out without any bound.
func crossSign(a, b, c, d int) int {
	ad := new(big.Int).Mul(wide(a), wide(d))
	bc := new(big.Int).Mul(wide(b), wide(c))
	return ad.Cmp(bc)
}

func wantNumber(t *testing.T, n int, e api.Errno, want int, wantErr api.Errno, what string, args ...int) {
	t.Helper()
	if n != want || e != wantErr {
		t.Errorf("%s%v = %d, %d; want %d, %d", what, args, n, int(e), want, int(wantErr))
	}
}

func TestExamples(t *testing.T) {
	n, e := Cross(1, 2, 2, 3)
	wantNumber(t, n, e, -1, api.OK, "Cross", 1, 2, 2, 3)
	n, e = Cross(2, 4, 1, 2)
	wantNumber(t, n, e, 0, api.OK, "Cross", 2, 4, 1, 2)
	n, e = Cross(67108864, 1, 1, 1)
	wantNumber(t, n, e, 0, api.ErrOver, "Cross", 67108864, 1, 1, 1)
	n, e = Up(5)
	wantNumber(t, n, e, 3, api.OK, "Up", 5)
	n, e = Down(5)
	wantNumber(t, n, e, 2, api.OK, "Down", 5)
	n, e = Between(10, 20, 1, 4)
	wantNumber(t, n, e, 50, api.OK, "Between", 10, 20, 1, 4)
}

// P1.1: the sign of the cross product.
func TestCrossSign(t *testing.T) {
	for _, x := range [][5]int{
		{1, 3, 1, 2, -1},
		{1, 2, 1, 3, 1},
		{3, 6, 4, 8, 0},
		{-1, 2, 1, 2, -1},
		{-1, 3, -1, 2, 1},
		{0, 5, 0, 7, 0},
		{0, 0, 9, 9, 0},
		{1, 0, 0, 1, 1},
		{0, 1, 1, 0, -1},
		{1, -2, 1, 2, 1}, // no fractions, as one lower number is below 0: the sign of the product alone
		{over - 1, over - 2, over - 2, over - 3, -1},
		{over - 2, over - 3, over - 1, over - 2, 1},
		{over - 1, over - 1, over - 1, over - 1, 0},
		{over - 1, over - 1, -over + 1, over - 1, 1},
		{-over + 1, over - 1, over - 1, over - 1, -1},
	} {
		n, e := Cross(x[0], x[1], x[2], x[3])
		wantNumber(t, n, e, x[4], api.OK, "Cross", x[:4]...)
	}
}

func TestCrossAtSmallEdges(t *testing.T) {
	l := smallEdges()
	for _, a := range l {
		for _, b := range l {
			for _, c := range l {
				for _, d := range l {
					n, e := Cross(a, b, c, d)
					wantNumber(t, n, e, crossSign(a, b, c, d), api.OK, "Cross", a, b, c, d)
				}
			}
		}
	}
}

// P1.1: one number that is not small is enough, at each place.
func TestCrossOver(t *testing.T) {
	for _, out := range notSmall() {
		for _, in := range smallEdges() {
			for place := range 4 {
				x := [4]int{in, in, in, in}
				x[place] = out
				n, e := Cross(x[0], x[1], x[2], x[3])
				wantNumber(t, n, e, 0, api.ErrOver, "Cross", x[:]...)
			}
		}
		n, e := Cross(out, out, out, out)
		wantNumber(t, n, e, 0, api.ErrOver, "Cross", out, out, out, out)
	}
}

// wantWide asks for the number, or for ErrOver where 64 bits don't hold it.
func wantWide(t *testing.T, n int, e api.Errno, want *big.Int, what string, a, b int) {
	t.Helper()
	if want.IsInt64() {
		wantNumber(t, n, e, int(want.Int64()), api.OK, what, a, b)
	} else {
		wantNumber(t, n, e, 0, api.ErrOver, what, a, b)
	}
}

// P1.2: what 64 bits hold is answered, all else is refused.
func TestAddAndMulAtEdges(t *testing.T) {
	for _, a := range edges() {
		for _, b := range edges() {
			n, e := Add(a, b)
			wantWide(t, n, e, new(big.Int).Add(wide(a), wide(b)), "Add", a, b)
			n, e = Mul(a, b)
			wantWide(t, n, e, new(big.Int).Mul(wide(a), wide(b)), "Mul", a, b)
		}
	}
}

func TestAdd(t *testing.T) {
	for _, x := range [][3]int{
		{2, 3, 5},
		{-2, 3, 1},
		{-2, -3, -5},
		{0, 0, 0},
		{greatest, 0, greatest},
		{greatest - 1, 1, greatest},
		{least, 0, least},
		{least + 1, -1, least},
		{least, greatest, -1},
		{greatest, least, -1},
	} {
		n, e := Add(x[0], x[1])
		wantNumber(t, n, e, x[2], api.OK, "Add", x[0], x[1])
	}
	for _, x := range [][2]int{{greatest, 1}, {1, greatest}, {greatest, greatest}, {least, -1}, {-1, least}, {least, least}} {
		n, e := Add(x[0], x[1])
		wantNumber(t, n, e, 0, api.ErrOver, "Add", x[:]...)
	}
}

func TestMul(t *testing.T) {
	for _, x := range [][3]int{
		{6, 7, 42},
		{-6, 7, -42},
		{-6, -7, 42},
		{0, least, 0},
		{least, 0, 0},
		{greatest, 0, 0},
		{1, least, least},
		{least, 1, least},
		{-1, greatest, -greatest},
		{1 << 32, -1 << 31, least},
		{-1 << 31, 1 << 32, least},
		{3037000499, 3037000499, 9223372030926249001},
	} {
		n, e := Mul(x[0], x[1])
		wantNumber(t, n, e, x[2], api.OK, "Mul", x[0], x[1])
	}
	for _, x := range [][2]int{
		{least, -1}, {-1, least}, {least, least}, {greatest, greatest}, {greatest, 2}, {2, greatest}, {least, 2},
		{1 << 32, 1 << 31}, {-1 << 32, -1 << 31}, {1 << 32, 1 << 32}, {3037000500, 3037000500}, {3037000500, -3037000500},
	} {
		n, e := Mul(x[0], x[1])
		wantNumber(t, n, e, 0, api.ErrOver, "Mul", x[:]...)
	}
}

// P1.3: logarithms at the powers and at their neighbours.
func TestLogarithmsAtPowers(t *testing.T) {
	for k := range 63 {
		p := 1 << k
		up, e := Up(p)
		wantNumber(t, up, e, k, api.OK, "Up", p)
		down, e := Down(p)
		wantNumber(t, down, e, k, api.OK, "Down", p)
		if !Power(p) {
			t.Errorf("Power(%d) is false", p)
		}
		if k < 2 {
			continue
		}
		up, e = Up(p - 1)
		wantNumber(t, up, e, k, api.OK, "Up", p-1)
		down, e = Down(p - 1)
		wantNumber(t, down, e, k-1, api.OK, "Down", p-1)
		up, e = Up(p + 1)
		wantNumber(t, up, e, k+1, api.OK, "Up", p+1)
		down, e = Down(p + 1)
		wantNumber(t, down, e, k, api.OK, "Down", p+1)
		if Power(p-1) || Power(p+1) || Power(-p) {
			t.Errorf("Power of a neighbour of %d, or of %d, is true", p, -p)
		}
	}
}

func TestLogarithmsOfTheGreatest(t *testing.T) {
	n, e := Up(greatest)
	wantNumber(t, n, e, 63, api.OK, "Up", greatest)
	n, e = Down(greatest)
	wantNumber(t, n, e, 62, api.OK, "Down", greatest)
}

func TestLogarithmsRefuse(t *testing.T) {
	for _, n := range []int{0, -1, -2, -1024, least + 1, least} {
		k, e := Up(n)
		wantNumber(t, k, e, 0, api.ErrArg, "Up", n)
		k, e = Down(n)
		wantNumber(t, k, e, 0, api.ErrArg, "Down", n)
	}
}

func TestPower(t *testing.T) {
	powers := map[int]bool{}
	for k := range 63 {
		powers[1<<k] = true
	}
	for n := -4100; n <= 4100; n++ {
		if Power(n) != powers[n] {
			t.Errorf("Power(%d) = %v", n, Power(n))
		}
	}
	for _, n := range edges() {
		if Power(n) != powers[n] {
			t.Errorf("Power(%d) = %v", n, Power(n))
		}
	}
}

// P1.4: at 0, at steps, and all between.
func TestBetween(t *testing.T) {
	for _, x := range [][5]int{
		{10, 20, 0, 4, 40},
		{10, 20, 4, 4, 80},
		{20, 10, 1, 4, 70},
		{-10, 10, 1, 2, 0},
		{-3, -5, 1, 3, -11},
		{7, 9, 0, 1, 7},
		{7, 9, 1, 1, 9},
		{0, 0, 3, 5, 0},
		{over - 1, over - 1, 0, over - 1, (over - 1) * (over - 1)},
		{over - 1, over - 1, over - 1, over - 1, (over - 1) * (over - 1)},
		{-over + 1, -over + 1, over / 2, over - 1, -(over - 1) * (over - 1)},
		{-over + 1, over - 1, over - 1, over - 1, (over - 1) * (over - 1)},
	} {
		n, e := Between(x[0], x[1], x[2], x[3])
		wantNumber(t, n, e, x[4], api.OK, "Between", x[:4]...)
	}
}

// betweenWant is what P1.4 says, worked out without any bound.
func betweenWant(low, high, at, steps int) (int, api.Errno) {
	if steps < 1 || at < 0 || at > steps {
		return 0, api.ErrArg
	}
	for _, n := range []int{low, high, at, steps} {
		if n <= -over || n >= over {
			return 0, api.ErrOver
		}
	}
	left := new(big.Int).Sub(wide(steps), wide(at))
	sum := new(big.Int).Mul(wide(low), left)
	sum.Add(sum, new(big.Int).Mul(wide(high), wide(at)))
	return int(sum.Int64()), api.OK
}

func TestBetweenAtEdges(t *testing.T) {
	l := append(smallEdges(), notSmall()...)
	for _, low := range l {
		for _, high := range l {
			for _, at := range l {
				for _, steps := range l {
					n, e := Between(low, high, at, steps)
					want, wantErr := betweenWant(low, high, at, steps)
					wantNumber(t, n, e, want, wantErr, "Between", low, high, at, steps)
				}
			}
		}
	}
}

// P1.4 and P1: a wrong place is told ahead of numbers that are too great.
func TestBetweenErrorsInOrder(t *testing.T) {
	for _, x := range [][4]int{
		{1, 2, 0, 0}, {1, 2, 0, -1}, {1, 2, -1, 4}, {1, 2, 5, 4}, {1, 2, -1, -1},
		{over, 2, 5, 4}, {1, over, -1, 4}, {least, greatest, 0, 0}, {1, 2, over + 1, over}, {1, 2, greatest, least}, {1, 2, -over, over},
	} {
		n, e := Between(x[0], x[1], x[2], x[3])
		wantNumber(t, n, e, 0, api.ErrArg, "Between", x[:]...)
	}
	for _, x := range [][4]int{
		{over, 2, 1, 4}, {-over, 2, 1, 4}, {1, over, 1, 4}, {1, -over, 1, 4}, {1, 2, 1, over}, {1, 2, over, over},
		{over, 2, 4, 4}, {1, over, 0, 4}, {least, greatest, greatest, greatest},
	} {
		n, e := Between(x[0], x[1], x[2], x[3])
		wantNumber(t, n, e, 0, api.ErrOver, "Between", x[:]...)
	}
}

// P1.5: the other way round the sign turns.
func TestCrossTurns(t *testing.T) {
	l := smallEdges()
	for _, a := range l {
		for _, b := range l {
			for _, c := range l {
				for _, d := range l {
					n, _ := Cross(a, b, c, d)
					m, e := Cross(c, d, a, b)
					wantNumber(t, m, e, -n, api.OK, "Cross", c, d, a, b)
				}
			}
		}
	}
}

// P1.5: what goes on goes on: a fraction at most another one, and that at most a third, is at most the third.
func TestCrossGoesOn(t *testing.T) {
	var fractions [][2]int
	for _, a := range smallEdges() {
		for _, b := range []int{1, 2, 3, over - 2, over - 1} {
			fractions = append(fractions, [2]int{a, b})
		}
	}
	for _, x := range fractions {
		for _, y := range fractions {
			first, _ := Cross(x[0], x[1], y[0], y[1])
			for _, z := range fractions {
				second, _ := Cross(y[0], y[1], z[0], z[1])
				if first > 0 || second > 0 {
					continue
				}
				n, e := Cross(x[0], x[1], z[0], z[1])
				wantNumber(t, n, e, min(first, second), api.OK, "Cross", x[0], x[1], z[0], z[1])
			}
		}
	}
}

// P1.5: a number lies between the powers of its logarithms, which are one only at a power.
func TestLogarithmsHoldTheNumber(t *testing.T) {
	numbers := edges()
	for n := 1; n <= 5000; n++ {
		numbers = append(numbers, n)
	}
	for _, n := range numbers {
		if n < 1 {
			continue
		}
		up, e := Up(n)
		down, f := Down(n)
		if e != api.OK || f != api.OK {
			t.Fatalf("logarithms of %d: %d, %d", n, int(e), int(f))
		}
		if uint64(1)<<down > uint64(n) || uint64(1)<<up < uint64(n) {
			t.Errorf("%d does not lie from 2^%d to 2^%d", n, down, up)
		}
		if (up == down) != Power(n) || up-down > 1 {
			t.Errorf("logarithms of %d: %d and %d", n, up, down)
		}
	}
}
