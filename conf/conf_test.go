package conf

import (
	"math"
	"math/big"
	"slices"
	"testing"

	"shelfmark/api"
)

const (
	least    = math.MinInt64
	greatest = math.MaxInt64
)

// example is the chapter's config.
func example() api.Config {
	return api.Config{Tag: api.TagPma, Most: 8, Seg: 4, Least: 16, Den: 8, LeafLow: 0, RootLow: 1, RootHigh: 4, LeafHigh: 8}
}

// greatestConfig has sizes at their limits, the greatest capacity (32,768) among them.
func greatestConfig() api.Config {
	return api.Config{Tag: api.TagLog, Most: api.MaxMost, Seg: api.MaxSeg, Least: api.MaxLeast, Den: api.MaxDen, LeafLow: 3, RootLow: 8, RootHigh: 32, LeafHigh: 64}
}

// flat is a config of height 0, with one capacity.
func flat() api.Config {
	return api.Config{Tag: api.TagCob, Most: 8, Seg: 16, Least: 16, Den: 8, LeafLow: 0, RootLow: 1, RootHigh: 4, LeafHigh: 5}
}

// tilted is a config whose fractions don't go up in the slots.
func tilted() api.Config {
	return api.Config{Tag: api.TagCob, Most: 700, Seg: 32, Least: 64, Den: 23, LeafLow: 1, RootLow: 2, RootHigh: 13, LeafHigh: 20}
}

// long has many capacities: the least one is small, the greatest is not.
func long() api.Config {
	return api.Config{Tag: api.TagPma, Most: api.MaxMost, Seg: api.MaxSeg, Least: api.MaxSeg, Den: 8, LeafLow: 0, RootLow: 1, RootHigh: 4, LeafHigh: 8}
}

func wide(n int) *big.Int { return big.NewInt(int64(n)) }

// productsCompared is how a times b stands to c times d, worked out without any bound.
func productsCompared(a, b, c, d int) int {
	return new(big.Int).Mul(wide(a), wide(b)).Cmp(new(big.Int).Mul(wide(c), wide(d)))
}

// isPower tells whether n is a power by going through all of them.
func isPower(n int) bool {
	for k := range 63 {
		if n == 1<<k {
			return true
		}
	}
	return false
}

// plainCapacities are all capacities of c, the least one first; none, where doubling makes none that takes Most.
func plainCapacities(c api.Config) []int {
	if c.Least < 1 || c.Den < 1 || c.RootHigh < 1 || c.Most > 1<<20 || c.Den > 1<<20 || c.Least > 1<<20 {
		return nil
	}
	l := []int{c.Least}
	for productsCompared(c.Most, c.Den, c.RootHigh, l[len(l)-1]) > 0 {
		l = append(l, 2*l[len(l)-1])
	}
	return l
}

// plainHeight is how often seg slots are doubled till they are size, at least.
func plainHeight(seg, size int) int {
	height := 0
	for w := seg; w > 0 && w < size; w *= 2 {
		height++
	}
	return height
}

// slopeOf tells the last of the conditions: it is asked where there is a greatest capacity.
func slopeOf(c api.Config) bool {
	capacities := plainCapacities(c)
	if len(capacities) == 0 || c.Seg < 1 || c.LeafHigh > 1<<20 || c.RootHigh > 1<<20 {
		return true
	}
	height := plainHeight(c.Seg, capacities[len(capacities)-1])
	return productsCompared(c.LeafHigh-c.RootHigh, c.Seg, c.Den, height) >= 0
}

// broken names the conditions that c breaks, in the chapter's order.
func broken(c api.Config) []string {
	var names []string
	ask := func(name string, holds bool) {
		if !holds {
			names = append(names, name)
		}
	}
	ask("tag", c.Tag == 1 || c.Tag == 2 || c.Tag == 3)
	ask("most from", c.Most >= 1)
	ask("most to", c.Most <= 16384)
	ask("seg power", isPower(c.Seg))
	ask("seg from", c.Seg >= 4)
	ask("seg to", c.Seg <= 64)
	ask("least power", isPower(c.Least))
	ask("least from", c.Least >= c.Seg)
	ask("least to", c.Least <= 256)
	ask("den from", c.Den >= 1)
	ask("den to", c.Den <= 64)
	ask("leaf low from", c.LeafLow >= 0)
	ask("leaf low below", c.LeafLow < c.RootLow)
	ask("root high below", c.RootHigh < c.LeafHigh)
	ask("leaf high to", c.LeafHigh <= c.Den)
	ask("root high half", productsCompared(2, c.RootHigh, 1, c.Den) >= 0)
	ask("root low eighth", productsCompared(8, c.RootLow, 1, c.Den) <= 0)
	ask("root low two", productsCompared(c.RootLow, c.Least, 2, c.Den) >= 0)
	ask("slope", slopeOf(c))
	return names
}

func wantCheck(t *testing.T, c api.Config) {
	t.Helper()
	want := api.OK
	names := broken(c)
	if len(names) > 0 {
		want = api.ErrConf
	}
	if e := Check(c); e != want {
		t.Errorf("Check(%v) = %d; want %d; broken: %v", c, int(e), int(want), names)
	}
}

func wantNumber(t *testing.T, n int, e api.Errno, want int, wantErr api.Errno, what string, c api.Config, arg int) {
	t.Helper()
	if n != want || e != wantErr {
		t.Errorf("%s(%v, %d) = %d, %d; want %d, %d", what, c, arg, n, int(e), want, int(wantErr))
	}
}

func wantBool(t *testing.T, is bool, e api.Errno, want bool, wantErr api.Errno, what string, c api.Config, args ...int) {
	t.Helper()
	if is != want || e != wantErr {
		t.Errorf("%s(%v, %v) = %v, %d; want %v, %d", what, c, args, is, int(e), want, int(wantErr))
	}
}

// plainCap is what P5.2 says of Cap.
func plainCap(c api.Config, n int) (int, api.Errno) {
	switch {
	case len(broken(c)) > 0:
		return 0, api.ErrConf
	case n < 0:
		return 0, api.ErrArg
	case n > c.Most:
		return 0, api.ErrMany
	}
	for _, size := range plainCapacities(c) {
		if n*c.Den <= c.RootHigh*size {
			return size, api.OK
		}
	}
	panic("no capacity takes Most")
}

// plainHigh is what P5.2 says of High.
func plainHigh(c api.Config, size int) (int, api.Errno) {
	if len(broken(c)) > 0 {
		return 0, api.ErrConf
	}
	if !slices.Contains(plainCapacities(c), size) {
		return 0, api.ErrArg
	}
	return plainHeight(c.Seg, size), api.OK
}

// plainWindow is what P5.3 says of the errors of Full and Sparse, the height of all, and the window's slots.
func plainWindow(c api.Config, size, h, n int) (height, w int, e api.Errno) {
	height, e = plainHigh(c, size)
	if e != api.OK {
		return 0, 0, e
	}
	if h < 0 || h > height {
		return 0, 0, api.ErrArg
	}
	w = c.Seg
	for range h {
		w *= 2
	}
	if n < 0 || n > w {
		return 0, 0, api.ErrArg
	}
	return height, w, api.OK
}

func plainFull(c api.Config, size, h, n int) (bool, api.Errno) {
	height, w, e := plainWindow(c, size, h, n)
	if e != api.OK {
		return false, e
	}
	if height == 0 {
		return n*c.Den <= w*c.RootHigh, api.OK
	}
	return n*height*c.Den <= w*(c.LeafHigh*(height-h)+c.RootHigh*h), api.OK
}

func plainSparse(c api.Config, size, h, n int) (bool, api.Errno) {
	height, w, e := plainWindow(c, size, h, n)
	if e != api.OK {
		return false, e
	}
	return size == c.Least || (n+1)*height*c.Den >= w*(c.LeafLow*(height-h)+c.RootLow*h), api.OK
}

func wantFull(t *testing.T, c api.Config, size, h, n int) {
	t.Helper()
	is, e := Full(c, size, h, n)
	want, wantErr := plainFull(c, size, h, n)
	wantBool(t, is, e, want, wantErr, "Full", c, size, h, n)
}

func wantSparse(t *testing.T, c api.Config, size, h, n int) {
	t.Helper()
	is, e := Sparse(c, size, h, n)
	want, wantErr := plainSparse(c, size, h, n)
	wantBool(t, is, e, want, wantErr, "Sparse", c, size, h, n)
}

func wantCap(t *testing.T, c api.Config, n int) {
	t.Helper()
	size, e := Cap(c, n)
	want, wantErr := plainCap(c, n)
	wantNumber(t, size, e, want, wantErr, "Cap", c, n)
}

func wantHigh(t *testing.T, c api.Config, size int) {
	t.Helper()
	height, e := High(c, size)
	want, wantErr := plainHigh(c, size)
	wantNumber(t, height, e, want, wantErr, "High", c, size)
}

func mixer(seed uint64) func(below int) int {
	return func(below int) int {
		seed = seed*6364136223846793005 + 1442695040888963407
		return int(seed>>33) % below
	}
}

// mixedConfigs are n configs that may be, from all over what may be.
func mixedConfigs(n int, seed uint64) []api.Config {
	next := mixer(seed)
	var l []api.Config
	for len(l) < n {
		c := api.Config{Tag: uint8(1 + next(3)), Seg: 4 << next(5), Den: 1 + next(64)}
		c.Most = 1 + next(1<<next(15))
		c.Least = c.Seg << next(7)
		c.RootLow = 1 + next(c.Den/8+1)
		c.LeafLow = next(c.RootLow)
		c.RootHigh = (c.Den+1)/2 + next(c.Den/4+1)
		c.LeafHigh = c.RootHigh + 1 + next(c.Den)
		if len(broken(c)) == 0 {
			l = append(l, c)
		}
	}
	return l
}

// configs are some that may be: those by name, and mixed ones.
func configs() []api.Config {
	return append([]api.Config{example(), greatestConfig(), flat(), tilted(), long()}, mixedConfigs(60, 5)...)
}

func TestNamedConfigsMayBe(t *testing.T) {
	for _, c := range []api.Config{example(), greatestConfig(), flat(), tilted(), long()} {
		if e := Check(c); e != api.OK || len(broken(c)) > 0 {
			t.Errorf("Check(%v) = %d; broken: %v", c, int(e), broken(c))
		}
	}
}

func TestExamples(t *testing.T) {
	c := example()
	if e := Check(c); e != api.OK {
		t.Errorf("Check = %d", int(e))
	}
	nine := c
	nine.Most = 9
	if e := Check(nine); e != api.ErrConf {
		t.Errorf("Check with Most 9 = %d", int(e))
	}
	n, e := Cap(c, 8)
	wantNumber(t, n, e, 16, api.OK, "Cap", c, 8)
	n, e = High(c, 16)
	wantNumber(t, n, e, 2, api.OK, "High", c, 16)
	for _, x := range []struct {
		h, n int
		want bool
	}{{2, 8, true}, {2, 9, false}, {0, 4, true}, {1, 6, true}, {1, 7, false}} {
		is, e := Full(c, 16, x.h, x.n)
		wantBool(t, is, e, x.want, api.OK, "Full", c, 16, x.h, x.n)
	}
}

// P5.1: each condition at its limit, and one beyond it, where it is the only one that is broken.
func TestCheckAtLimits(t *testing.T) {
	for _, x := range []struct {
		name   string
		base   api.Config
		at     func(*api.Config)
		beyond func(*api.Config)
	}{
		{"tag", example(), func(c *api.Config) { c.Tag = 1 }, func(c *api.Config) { c.Tag = 0 }},
		{"tag", example(), func(c *api.Config) { c.Tag = 3 }, func(c *api.Config) { c.Tag = 4 }},
		{"tag", example(), func(c *api.Config) { c.Tag = 2 }, func(c *api.Config) { c.Tag = 255 }},
		{"most from", example(), func(c *api.Config) { c.Most = 1 }, func(c *api.Config) { c.Most = 0 }},
		{"most to", greatestConfig(), func(c *api.Config) { c.Most = 16384 }, func(c *api.Config) { c.Most = 16385 }},
		{"most to", greatestConfig(), func(c *api.Config) { c.Most = 16383 }, func(c *api.Config) { c.Most = 30000 }},
		{"seg power", long(), func(c *api.Config) { c.Seg = 32 }, func(c *api.Config) { c.Seg = 48 }},
		{"seg power", flat(), func(c *api.Config) { c.Seg = 8 }, func(c *api.Config) { c.Seg = 9 }},
		{"seg to", greatestConfig(), func(c *api.Config) { c.Seg = 64 }, func(c *api.Config) { c.Seg = 128 }},
		{"least power", greatestConfig(), func(c *api.Config) { c.Least = 128 }, func(c *api.Config) { c.Least = 96 }},
		{"least power", greatestConfig(), func(c *api.Config) { c.Least = 256 }, func(c *api.Config) { c.Least = 255 }},
		{"least from", flat(), func(c *api.Config) { c.Seg = 16 }, func(c *api.Config) { c.Seg = 32 }},
		{"least from", greatestConfig(), func(c *api.Config) { c.Least = 64 }, func(c *api.Config) { c.Least = 32 }},
		{"least to", greatestConfig(), func(c *api.Config) { c.Least = 256 }, func(c *api.Config) { c.Least = 512 }},
		{"den to", greatestConfig(), func(c *api.Config) { c.Den, c.RootHigh = 64, 33 }, func(c *api.Config) { c.Den, c.RootHigh = 65, 33 }},
		{"leaf low from", tilted(), func(c *api.Config) { c.LeafLow = 0 }, func(c *api.Config) { c.LeafLow = -1 }},
		{"leaf low below", tilted(), func(c *api.Config) { c.LeafLow = 1 }, func(c *api.Config) { c.LeafLow = 2 }},
		{"root high below", flat(), func(c *api.Config) { c.LeafHigh = 5 }, func(c *api.Config) { c.LeafHigh = 4 }},
		{"leaf high to", flat(), func(c *api.Config) { c.LeafHigh = 8 }, func(c *api.Config) { c.LeafHigh = 9 }},
		{"leaf high to", tilted(), func(c *api.Config) { c.LeafHigh = 23 }, func(c *api.Config) { c.LeafHigh = 24 }},
		{"root high half", greatestConfig(), func(c *api.Config) { c.RootHigh = 32 }, func(c *api.Config) { c.RootHigh = 31 }},
		{"root high half", tilted(), func(c *api.Config) { c.RootHigh = 12 }, func(c *api.Config) { c.RootHigh = 11 }},
		{"root low eighth", greatestConfig(), func(c *api.Config) { c.RootLow = 8 }, func(c *api.Config) { c.RootLow = 9 }},
		{"root low eighth", tilted(), func(c *api.Config) { c.RootLow = 2 }, func(c *api.Config) { c.RootLow = 3 }},
		{"root low two", greatestConfig(), func(c *api.Config) { c.Least, c.RootLow, c.LeafLow = 64, 2, 1 }, func(c *api.Config) { c.Least, c.RootLow, c.LeafLow = 64, 1, 0 }},
		{"root low two", flat(), func(c *api.Config) { c.Seg, c.Least, c.Most = 16, 16, 4 }, func(c *api.Config) { c.Seg, c.Least, c.Most = 8, 8, 4 }},
		{"slope", example(), func(c *api.Config) { c.Most = 8 }, func(c *api.Config) { c.Most = 9 }},
		{"slope", example(), func(c *api.Config) { c.LeafHigh = 8 }, func(c *api.Config) { c.LeafHigh = 7 }},
		{"slope", tilted(), func(c *api.Config) { c.LeafHigh = 18 }, func(c *api.Config) { c.LeafHigh = 17 }},
	} {
		c := x.base
		x.at(&c)
		if names := broken(c); len(names) > 0 {
			t.Errorf("%s: %v breaks %v; it should be at the limit", x.name, c, names)
		}
		wantCheck(t, c)
		x.beyond(&c)
		if names := broken(c); !slices.Equal(names, []string{x.name}) {
			t.Errorf("%s: %v breaks %v; it should break that alone", x.name, c, names)
		}
		wantCheck(t, c)
	}
}

// P5.1: what another condition refuses too, and what lies farther out.
func TestCheckRefusesFartherOut(t *testing.T) {
	for _, turn := range []func(*api.Config){
		func(c *api.Config) { c.Seg = 0 },
		func(c *api.Config) { c.Seg = 1 },
		func(c *api.Config) { c.Seg = 2 },
		func(c *api.Config) { c.Seg = 3 },
		func(c *api.Config) { c.Seg = 5 },
		func(c *api.Config) { c.Seg = 63 },
		func(c *api.Config) { c.Seg = 65 },
		func(c *api.Config) { c.Seg = -4 },
		func(c *api.Config) { c.Least = 0 },
		func(c *api.Config) { c.Least = -16 },
		func(c *api.Config) { c.Least = 257 },
		func(c *api.Config) { c.Den = 0 },
		func(c *api.Config) { c.Den = -8 },
		func(c *api.Config) { c.Den = 1 },
		func(c *api.Config) { c.RootLow = 0 },
		func(c *api.Config) { c.RootLow = -1 },
		func(c *api.Config) { c.RootHigh = 0 },
		func(c *api.Config) { c.RootHigh = -4 },
		func(c *api.Config) { c.LeafHigh = 0 },
		func(c *api.Config) { c.Most = -1 },
		func(c *api.Config) { *c = api.Config{} },
	} {
		for _, c := range []api.Config{example(), flat(), long()} {
			turn(&c)
			if e := Check(c); e != api.ErrConf {
				t.Errorf("Check(%v) = %d", c, int(e))
			}
		}
	}
}

// fields are the numbers of a config.
func fields(c *api.Config) []*int {
	return []*int{&c.Most, &c.Seg, &c.Least, &c.Den, &c.LeafLow, &c.RootLow, &c.RootHigh, &c.LeafHigh}
}

// values are numbers at which a condition may turn, and those whose products run over.
func values() []int {
	return []int{least, least + 1, -1 << 62, -1 << 32, -64, -1, 0, 1, 2, 3, 4, 5, 7, 8, 9, 15, 16, 17, 31, 32, 33, 63, 64, 65, 127, 128, 255, 256, 257, 512, 16383, 16384, 16385, 1 << 26, 1<<26 - 1, 1 << 32, 1 << 59, 1 << 60, 1<<60 + 1, 1 << 61, 1 << 62, 1<<62 + 1, greatest - 1, greatest}
}

// P5.1 and P1: one number, and two, anywhere, at the least and the greatest too.
func TestCheckAnywhere(t *testing.T) {
	for _, base := range []api.Config{example(), greatestConfig(), flat(), tilted()} {
		for i := range fields(&base) {
			for _, n := range values() {
				c := base
				*fields(&c)[i] = n
				wantCheck(t, c)
				for j := range i {
					for _, m := range values() {
						d := c
						*fields(&d)[j] = m
						wantCheck(t, d)
					}
				}
			}
		}
		for tag := range 256 {
			c := base
			c.Tag = uint8(tag)
			wantCheck(t, c)
		}
	}
}

// P5.1: all small densities, in each order.
func TestCheckDensities(t *testing.T) {
	for _, base := range []api.Config{example(), flat(), {Tag: 1, Most: 40, Seg: 16, Least: 16}} {
		for _, den := range []int{7, 8, 9, 16} {
			c := base
			c.Den = den
			for c.LeafLow = -1; c.LeafLow <= 3; c.LeafLow++ {
				for c.RootLow = -1; c.RootLow <= 3; c.RootLow++ {
					for c.RootHigh = -1; c.RootHigh <= den+1; c.RootHigh++ {
						for c.LeafHigh = -1; c.LeafHigh <= den+1; c.LeafHigh++ {
							wantCheck(t, c)
						}
					}
				}
			}
		}
	}
}

// P5.1: sizes together, powers and others.
func TestCheckSizes(t *testing.T) {
	sizes := []int{-1, 0, 1, 2, 3, 4, 5, 6, 8, 12, 16, 24, 32, 48, 63, 64, 65, 96, 128, 192, 255, 256, 257, 512}
	for _, base := range []api.Config{example(), greatestConfig(), tilted()} {
		for _, seg := range sizes {
			for _, size := range sizes {
				for _, most := range []int{-1, 0, 1, 4, 8, 9, 16, 17, 100, 1000, 8192, 8193, 16384, 16385} {
					c := base
					c.Seg, c.Least, c.Most = seg, size, most
					wantCheck(t, c)
				}
			}
		}
	}
}

func TestCheckMixed(t *testing.T) {
	next := mixer(11)
	l := values()
	for range 20000 {
		c := api.Config{Tag: uint8(next(5))}
		for _, field := range fields(&c) {
			*field = l[next(len(l))]
		}
		wantCheck(t, c)
	}
}

// P5.2: at -1, 0, Most and one more, and just at, and one behind, what each capacity takes.
func TestCap(t *testing.T) {
	for _, c := range configs() {
		numbers := []int{least, -2, -1, 0, 1, 2, c.Most - 1, c.Most, c.Most + 1, c.Most + 2, 1 << 26, 1 << 61, greatest}
		for _, size := range plainCapacities(c) {
			takes := size * c.RootHigh / c.Den
			numbers = append(numbers, takes-1, takes, takes+1)
		}
		for _, n := range numbers {
			wantCap(t, c, n)
		}
	}
}

func TestCapOfAll(t *testing.T) {
	for _, c := range []api.Config{example(), flat(), tilted()} {
		for n := -3; n <= c.Most+3; n++ {
			wantCap(t, c, n)
		}
	}
}

func TestCapByNumber(t *testing.T) {
	for _, x := range []struct {
		c    api.Config
		n    int
		want int
		e    api.Errno
	}{
		{example(), 0, 16, api.OK},
		{example(), 9, 0, api.ErrMany},
		{example(), -1, 0, api.ErrArg},
		{flat(), 0, 16, api.OK},
		{flat(), 8, 16, api.OK},
		{long(), 0, 64, api.OK},
		{long(), 32, 64, api.OK},
		{long(), 33, 128, api.OK},
		{long(), 64, 128, api.OK},
		{long(), 65, 256, api.OK},
		{long(), 8192, 16384, api.OK},
		{long(), 8193, 32768, api.OK},
		{long(), 16384, 32768, api.OK},
		{long(), 16385, 0, api.ErrMany},
		{tilted(), 36, 64, api.OK}, // 64 slots times 13 / 23 are a little more than 36
		{tilted(), 37, 128, api.OK},
		{tilted(), 700, 2048, api.OK},
	} {
		n, e := Cap(x.c, x.n)
		wantNumber(t, n, e, x.want, x.e, "Cap", x.c, x.n)
	}
}

// P5.2: capacities, their neighbours, those below Least and above the greatest, and other numbers.
func TestHigh(t *testing.T) {
	for _, c := range configs() {
		sizes := []int{least, least + 1, -c.Least, -1, 0, 1, c.Seg - 1, c.Seg, c.Seg + 1, c.Least / 2, 3 * c.Least, 3 * c.Seg, 1 << 26, 1 << 32, 1<<32 + c.Least, 1 << 62, greatest}
		for k := range 18 {
			sizes = append(sizes, 1<<k, c.Least<<k-1, c.Least<<k, c.Least<<k+1, c.Least<<k+c.Least)
		}
		for _, size := range sizes {
			wantHigh(t, c, size)
		}
	}
}

func TestHighByNumber(t *testing.T) {
	for _, x := range []struct {
		c    api.Config
		size int
		want int
		e    api.Errno
	}{
		{example(), 8, 0, api.ErrArg},
		{example(), 32, 0, api.ErrArg}, // half of it takes Most
		{flat(), 16, 0, api.OK},
		{flat(), 8, 0, api.ErrArg},
		{flat(), 32, 0, api.ErrArg},
		{long(), 64, 0, api.OK},
		{long(), 128, 1, api.OK},
		{long(), 32768, 9, api.OK},
		{long(), 65536, 0, api.ErrArg},
		{long(), 192, 0, api.ErrArg},
		{tilted(), 64, 1, api.OK},
		{tilted(), 32, 0, api.ErrArg},
		{tilted(), 2048, 6, api.OK},
	} {
		n, e := High(x.c, x.size)
		wantNumber(t, n, e, x.want, x.e, "High", x.c, x.size)
	}
}

// windowNumbers are how many pairs a window of w slots may be asked of: the ends, beyond them, and around both fractions at which an answer may turn.
func windowNumbers(c api.Config, w, height, h int) []int {
	l := []int{least, -1, 0, 1, w / 2, w - 1, w, w + 1, greatest}
	if w <= 128 {
		for n := range w {
			l = append(l, n)
		}
	}
	if height == 0 {
		return append(l, w*c.RootHigh/c.Den, w*c.RootHigh/c.Den+1)
	}
	upper := w * (c.LeafHigh*(height-h) + c.RootHigh*h) / (height * c.Den)
	lower := w * (c.LeafLow*(height-h) + c.RootLow*h) / (height * c.Den)
	for off := -2; off <= 2; off++ {
		l = append(l, upper+off, lower+off)
	}
	return l
}

// P5.3: each capacity, each height and those beyond, numbers at the ends and where the answer turns.
func TestFullAndSparse(t *testing.T) {
	for _, c := range configs() {
		for _, size := range plainCapacities(c) {
			height := plainHeight(c.Seg, size)
			for h := range height + 1 {
				for _, n := range windowNumbers(c, c.Seg<<h, height, h) {
					wantFull(t, c, size, h, n)
					wantSparse(t, c, size, h, n)
				}
			}
		}
	}
}

func TestFullAndSparseByNumber(t *testing.T) {
	for _, x := range []struct {
		c            api.Config
		size, h, n   int
		full, sparse bool
	}{
		{example(), 16, 2, 0, true, true}, // of the least capacity nothing has too few
		{example(), 16, 0, 0, true, true},
		{example(), 16, 2, 16, false, true},
		{flat(), 16, 0, 8, true, true},
		{flat(), 16, 0, 9, false, true}, // of height 0 RootHigh tells, not LeafHigh
		{flat(), 16, 0, 0, true, true},
		{long(), 64, 0, 32, true, true},
		{long(), 64, 0, 33, false, true},
		{long(), 128, 0, 64, true, true},
		{long(), 128, 0, 0, true, true},
		{long(), 128, 1, 64, true, true},
		{long(), 128, 1, 65, false, true},
		{long(), 128, 1, 15, true, true},
		{long(), 128, 1, 14, true, false}, // 15 of 128 are below an eighth
		{long(), 256, 1, 96, true, true},
		{long(), 256, 1, 97, false, true},
		{long(), 256, 1, 7, true, true},
		{long(), 256, 1, 6, true, false},
		{long(), 32768, 9, 16384, true, true},
		{long(), 32768, 9, 16385, false, true},
		{long(), 32768, 9, 4095, true, true},
		{long(), 32768, 9, 4094, true, false},
		{greatestConfig(), 512, 0, 2, true, true}, // 3 of 64 are just 3 / 64
		{greatestConfig(), 512, 0, 1, true, false},
		{tilted(), 64, 1, 36, true, true},
		{tilted(), 64, 1, 37, false, true},
		{tilted(), 64, 0, 27, true, true},
		{tilted(), 64, 0, 28, false, true},
	} {
		is, e := Full(x.c, x.size, x.h, x.n)
		wantBool(t, is, e, x.full, api.OK, "Full", x.c, x.size, x.h, x.n)
		is, e = Sparse(x.c, x.size, x.h, x.n)
		wantBool(t, is, e, x.sparse, api.OK, "Sparse", x.c, x.size, x.h, x.n)
	}
}

// P5.3 and P1: sizes, heights and numbers beyond their ends, and those far from it.
func TestFullAndSparseRefuse(t *testing.T) {
	far := []int{least, -1 << 32, 1 << 26, 1 << 32, 1 << 62, greatest}
	for _, c := range configs() {
		capacities := plainCapacities(c)
		last := capacities[len(capacities)-1]
		height := plainHeight(c.Seg, last)
		sizes := append([]int{c.Least / 2, c.Least, c.Least + 1, c.Least - 1, 3 * c.Least, last, 2 * last, 0, -1, -last}, far...)
		heights := append([]int{-1, 0, height - 1, height, height + 1, 62, 63, 64, 65}, far...)
		numbers := append([]int{-1, 0, c.Seg, c.Seg + 1, last, last + 1}, far...)
		for _, size := range sizes {
			for _, h := range heights {
				for _, n := range numbers {
					wantFull(t, c, size, h, n)
					wantSparse(t, c, size, h, n)
				}
			}
		}
	}
}

func TestWindowErrorsByNumber(t *testing.T) {
	for _, x := range []struct {
		c          api.Config
		size, h, n int
	}{
		{example(), 8, 0, 0}, {example(), 32, 0, 0}, {example(), 15, 0, 0}, {example(), 0, 0, 0}, {example(), -16, 0, 0},
		{example(), 16, -1, 0}, {example(), 16, 3, 0},
		{example(), 16, 0, -1}, {example(), 16, 0, 5}, {example(), 16, 1, 9}, {example(), 16, 2, 17},
		{flat(), 16, 1, 0}, {flat(), 16, -1, 0}, {flat(), 16, 0, 17}, {flat(), 16, 0, -1}, {flat(), 32, 0, 0},
		{long(), 65536, 0, 0}, {long(), 32768, 10, 0}, {long(), 32768, 9, 32769}, {long(), 64, 1, 0},
	} {
		is, e := Full(x.c, x.size, x.h, x.n)
		wantBool(t, is, e, false, api.ErrArg, "Full", x.c, x.size, x.h, x.n)
		is, e = Sparse(x.c, x.size, x.h, x.n)
		wantBool(t, is, e, false, api.ErrArg, "Sparse", x.c, x.size, x.h, x.n)
	}
}

// P5.1 and P1: a config that may not be is told first, whatever else is wrong, and also where all else is right.
func TestConfigIsToldFirst(t *testing.T) {
	var bad []api.Config
	for _, base := range []api.Config{example(), flat(), long()} {
		for i := range fields(&base) {
			for _, n := range []int{least, -1, 0, greatest} {
				c := base
				*fields(&c)[i] = n
				if len(broken(c)) > 0 {
					bad = append(bad, c)
				}
			}
		}
	}
	bad = append(bad, api.Config{})
	numbers := []int{least, -1, 0, 1, 8, 16, 64, 17000, greatest}
	for _, c := range bad {
		for _, n := range numbers {
			m, e := Cap(c, n)
			wantNumber(t, m, e, 0, api.ErrConf, "Cap", c, n)
			m, e = High(c, n)
			wantNumber(t, m, e, 0, api.ErrConf, "High", c, n)
			for _, h := range numbers {
				is, e := Full(c, n, h, 0)
				wantBool(t, is, e, false, api.ErrConf, "Full", c, n, h, 0)
				is, e = Sparse(c, n, h, -1)
				wantBool(t, is, e, false, api.ErrConf, "Sparse", c, n, h, -1)
			}
		}
	}
}

// P5.4: what was handed in stays, and nothing is kept: asked again, with others between, each call answers the same.
func TestHandedInStays(t *testing.T) {
	type answers struct {
		check        api.Errno
		size, height int
		full, sparse bool
		errs         [4]api.Errno
	}
	ask := func(c *api.Config) (a answers) {
		a.check = Check(*c)
		a.size, a.errs[0] = Cap(*c, c.Most)
		a.height, a.errs[1] = High(*c, a.size)
		a.full, a.errs[2] = Full(*c, a.size, a.height, c.Most)
		a.sparse, a.errs[3] = Sparse(*c, a.size, 0, 0)
		return a
	}
	l := append(configs(), api.Config{}, api.Config{Tag: 1, Most: 5, Seg: greatest})
	kept := slices.Clone(l)
	var first []answers
	for i := range l {
		first = append(first, ask(&l[i]))
	}
	for i := len(l) - 1; i >= 0; i-- {
		if again := ask(&l[i]); again != first[i] {
			t.Errorf("%v answers %v, then %v", l[i], first[i], again)
		}
	}
	if !slices.Equal(l, kept) {
		t.Error("a config was turned")
	}
}

func isFull(t *testing.T, c api.Config, size, h, n int) bool {
	t.Helper()
	is, e := Full(c, size, h, n)
	if e != api.OK {
		t.Fatalf("Full(%v, %d, %d, %d): %d", c, size, h, n, int(e))
	}
	return is
}

func isSparse(t *testing.T, c api.Config, size, h, n int) bool {
	t.Helper()
	is, e := Sparse(c, size, h, n)
	if e != api.OK {
		t.Fatalf("Sparse(%v, %d, %d, %d): %d", c, size, h, n, int(e))
	}
	return is
}

// askParts asks P5.5 of all parts of a window of height h with n pairs.
func askParts(t *testing.T, c api.Config, size, h, n int) {
	t.Helper()
	full, sparse := isFull(t, c, size, h, n), isSparse(t, c, size, h, n)
	for low := range h {
		parts := 1 << (h - low)
		if up := (n + parts - 1) / parts; full && !isFull(t, c, size, low, up) {
			t.Errorf("%v: of %d slots a window of height %d has not too many with %d, but one of height %d has with %d", c, size, h, n, low, up)
		}
		if down := n / parts; sparse && !isSparse(t, c, size, low, down) {
			t.Errorf("%v: of %d slots a window of height %d has not too few with %d, but one of height %d has with %d", c, size, h, n, low, down)
		}
	}
}

// P5.5: parts with their shares, rounded up and rounded down.
func TestPartsFollow(t *testing.T) {
	for _, c := range append(configs(), mixedConfigs(200, 23)...) {
		for _, size := range plainCapacities(c) {
			height := plainHeight(c.Seg, size)
			for h := range height + 1 {
				for _, n := range windowNumbers(c, c.Seg<<h, height, h) {
					if n >= 0 && n <= c.Seg<<h {
						askParts(t, c, size, h, n)
					}
				}
			}
		}
	}
}

// firstTooMany is the least number of pairs with which all slots have too many.
func firstTooMany(t *testing.T, c api.Config, size, height int) int {
	t.Helper()
	n := 0
	for isFull(t, c, size, height, n) {
		n++
	}
	return n
}

// P5.5: where all has one pair too many, twice the capacity has not too many, and not too few.
func TestTwiceFollows(t *testing.T) {
	for _, c := range append(configs(), mixedConfigs(200, 41)...) {
		capacities := plainCapacities(c)
		for i, size := range capacities[:len(capacities)-1] {
			n := firstTooMany(t, c, size, plainHeight(c.Seg, size))
			twice, height := capacities[i+1], plainHeight(c.Seg, capacities[i+1])
			if !isFull(t, c, twice, height, n) || !isSparse(t, c, twice, height, n) {
				t.Errorf("%v: %d pairs of %d slots are one too many, and twice the capacity doesn't do", c, n, size)
			}
			if got, e := Cap(c, n); got != twice || e != api.OK {
				t.Errorf("Cap(%v, %d) = %d, %d; want %d", c, n, got, int(e), twice)
			}
		}
	}
}

// P5.5: where all has too few, half of it has not too many.
func TestHalfFollows(t *testing.T) {
	for _, c := range append(configs(), mixedConfigs(200, 59)...) {
		capacities := plainCapacities(c)
		for i, size := range capacities {
			height := plainHeight(c.Seg, size)
			n := 0
			for ; n <= size && !isSparse(t, c, size, height, n); n++ {
				if !isFull(t, c, capacities[i-1], height-1, n) {
					t.Errorf("%v: %d pairs of %d slots are too few, and too many of half of it", c, n, size)
				}
			}
			if (n == 0) != (i == 0) {
				t.Errorf("%v: %d is the first number that is not too few of %d slots", c, n, size)
			}
		}
	}
}
