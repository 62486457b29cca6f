package heap

import (
	"math"
	"slices"
	"testing"

	"shelfmark/api"
)

const (
	least    = math.MinInt64
	greatest = math.MaxInt64
)

// branch is a node of a tree that is built of pointers, without a rule for its number.
type branch struct {
	number      int
	depth       int
	above       *branch
	left, right *branch
	leaf        int // -1: it is none
}

// tree is a whole tree: its nodes in the order of their numbers (that of number 1 first), and its leaves.
type tree struct {
	levels int
	nodes  []*branch
	leaves []*branch
}

// grown is a tree of levels: each row is what hangs below the row above it, from the left to the right.
func grown(levels int) tree {
	x := tree{levels: levels}
	row := []*branch{{leaf: -1}}
	for depth := range levels {
		var next []*branch
		for _, b := range row {
			x.nodes = append(x.nodes, b)
			b.number = len(x.nodes)
			b.depth = depth
			b.left, b.right = &branch{above: b, leaf: -1}, &branch{above: b, leaf: -1}
			next = append(next, b.left, b.right)
		}
		x.leaves = row
		row = next
	}
	for k, b := range x.leaves {
		b.leaf = k
		b.left, b.right = nil, nil
	}
	return x
}

// path is the numbers from the root's down to that of b.
func (b *branch) path() []int {
	if b.above == nil {
		return []int{b.number}
	}
	return append(b.above.path(), b.number)
}

// under is the numbers of the leaves under b, gone down to one by one.
func (b *branch) under() []int {
	if b.leaf >= 0 {
		return []int{b.leaf}
	}
	return append(b.left.under(), b.right.under()...)
}

// everyTree hands on a tree of each number of levels.
func everyTree(do func(x tree)) {
	for levels := 1; levels <= api.MaxTree; levels++ {
		do(grown(levels))
	}
}

// everyNode hands on each node of each tree.
func everyNode(do func(x tree, b *branch)) {
	everyTree(func(x tree) {
		for _, b := range x.nodes {
			do(x, b)
		}
	})
}

// noLevels are numbers of levels that no tree has; some of them, taken as a shift's, would name a tree that is.
func noLevels() []int {
	return []int{0, -1, -2, -13, -14, -63, -64, -65, least, least + 1, least + 14, api.MaxTree + 1, api.MaxTree + 2, 31, 32, 33, 62, 63, 64, 65, 66, 78, 1 << 16, 1 << 32, 1<<32 + 3, greatest - 1, greatest}
}

// outside are numbers that are below 0, or too great for the greatest tree, those that run over by a shift or a sum among them.
func outside() []int {
	return []int{-1, -2, -3, -7, -8, -16383, -16384, least, least + 1, least + 2, least + 1<<13, -1 << 32, 1 << 14, 1<<14 + 1, 1 << 15, 1 << 31, 1 << 32, 1<<32 + 1, 1<<32 + 3, 1 << 50, 1<<51 + 1, 1 << 62, 1<<62 + 1, greatest - 1<<13, greatest - 2, greatest - 1, greatest}
}

// noNodes are numbers of which a tree with so many nodes has none.
func noNodes(size int) []int {
	return append(outside(), 0, -size, size+1, size+2, 2*size, 2*size+1, -size-1)
}

// noLeaves are numbers of which a tree with so many leaves has none.
func noLeaves(many int) []int {
	return append(outside(), -many, 1-2*many, many, many+1, 2*many-1, 2*many, greatest-many, greatest-many+1, greatest-many+2)
}

func wantNumber(t *testing.T, k int, e api.Errno, want int, wantE api.Errno, what string, args ...any) {
	t.Helper()
	if k != want || e != wantE {
		t.Errorf("%s%v = %d, %d; want %d, %d", what, args, k, int(e), want, int(wantE))
	}
}

func wantTwo(t *testing.T, a, b int, e api.Errno, wantA, wantB int, wantE api.Errno, what string, args ...any) {
	t.Helper()
	if a != wantA || b != wantB || e != wantE {
		t.Errorf("%s%v = %d, %d, %d; want %d, %d, %d", what, args, a, b, int(e), wantA, wantB, int(wantE))
	}
}

func wantPath(t *testing.T, l []int, e api.Errno, want []int, wantE api.Errno, what string, args ...any) {
	t.Helper()
	if !slices.Equal(l, want) || e != wantE {
		t.Errorf("%s%v = %v, %d; want %v, %d", what, args, l, int(e), want, int(wantE))
	}
}

// must is a number that a call answers without an error.
func must(t *testing.T, k int, e api.Errno) int {
	t.Helper()
	if e != api.OK {
		t.Fatalf("error %d", int(e))
	}
	return k
}

// mustPath is the path of the node n, which is one.
func mustPath(t *testing.T, levels, n int) []int {
	t.Helper()
	l, e := Path(levels, n)
	if e != api.OK {
		t.Fatalf("Path[%d %d]: error %d", levels, n, int(e))
	}
	return l
}

// mustUnder is the leaves under the node n, which is one.
func mustUnder(t *testing.T, levels, n int) (first, behind int) {
	t.Helper()
	first, behind, e := Under(levels, n)
	if e != api.OK {
		t.Fatalf("Under[%d %d]: error %d", levels, n, int(e))
	}
	return first, behind
}
