package heap

import (
	"slices"
	"testing"

	"shelfmark/api"
)

func TestExamples(t *testing.T) {
	k, e := Size(3)
	wantNumber(t, k, e, 7, api.OK, "Size", 3)
	k, e = Leaf(3, 1)
	wantNumber(t, k, e, 5, api.OK, "Leaf", 3, 1)
	l, e := Path(3, 5)
	wantPath(t, l, e, []int{1, 2, 5}, api.OK, "Path", 3, 5)
	first, behind, e := Under(3, 3)
	wantTwo(t, first, behind, e, 2, 4, api.OK, "Under", 3, 3)
	upper, lower, e := Split(3)
	wantTwo(t, upper, lower, e, 1, 2, api.OK, "Split", 3)
}

// P16.1: each tree's nodes, counted.
func TestSize(t *testing.T) {
	everyTree(func(x tree) {
		k, e := Size(x.levels)
		wantNumber(t, k, e, len(x.nodes), api.OK, "Size", x.levels)
	})
	k, e := Size(1)
	wantNumber(t, k, e, 1, api.OK, "Size", 1)
	k, e = Size(api.MaxTree)
	wantNumber(t, k, e, 16383, api.OK, "Size", api.MaxTree)
}

// P16.1: each leaf of each tree, the first and the last among them.
func TestLeaf(t *testing.T) {
	everyTree(func(x tree) {
		for k, b := range x.leaves {
			n, e := Leaf(x.levels, k)
			wantNumber(t, n, e, b.number, api.OK, "Leaf", x.levels, k)
		}
	})
	rows := []struct{ levels, k, node int }{
		{1, 0, 1}, {2, 0, 2}, {2, 1, 3}, {3, 0, 4}, {3, 3, 7}, {4, 5, 13}, {14, 0, 8192}, {14, 8191, 16383},
	}
	for _, r := range rows {
		n, e := Leaf(r.levels, r.k)
		wantNumber(t, n, e, r.node, api.OK, "Leaf", r.levels, r.k)
	}
}

// P16.1: each node of each tree.
func TestDepth(t *testing.T) {
	everyNode(func(x tree, b *branch) {
		k, e := Depth(x.levels, b.number)
		wantNumber(t, k, e, b.depth, api.OK, "Depth", x.levels, b.number)
	})
	rows := []struct{ levels, n, depth int }{
		{1, 1, 0}, {2, 1, 0}, {2, 2, 1}, {2, 3, 1}, {3, 3, 1}, {3, 4, 2}, {3, 7, 2}, {14, 1, 0}, {14, 8191, 12}, {14, 8192, 13}, {14, 16383, 13},
	}
	for _, r := range rows {
		k, e := Depth(r.levels, r.n)
		wantNumber(t, k, e, r.depth, api.OK, "Depth", r.levels, r.n)
	}
}

// P16.2: from the root down to each node of each tree, with both.
func TestPath(t *testing.T) {
	everyNode(func(x tree, b *branch) {
		l, e := Path(x.levels, b.number)
		wantPath(t, l, e, b.path(), api.OK, "Path", x.levels, b.number)
	})
	rows := []struct {
		levels, n int
		path      []int
	}{
		{1, 1, []int{1}},
		{2, 1, []int{1}},
		{2, 3, []int{1, 3}},
		{4, 11, []int{1, 2, 5, 11}},
		{14, 8192, []int{1, 2, 4, 8, 16, 32, 64, 128, 256, 512, 1024, 2048, 4096, 8192}},
		{14, 16383, []int{1, 3, 7, 15, 31, 63, 127, 255, 511, 1023, 2047, 4095, 8191, 16383}},
	}
	for _, r := range rows {
		l, e := Path(r.levels, r.n)
		wantPath(t, l, e, r.path, api.OK, "Path", r.levels, r.n)
	}
}

// P16.2: the leaves under each node of each tree.
func TestUnder(t *testing.T) {
	everyNode(func(x tree, b *branch) {
		leaves := b.under()
		first, behind, e := Under(x.levels, b.number)
		wantTwo(t, first, behind, e, leaves[0], leaves[len(leaves)-1]+1, api.OK, "Under", x.levels, b.number)
	})
	rows := []struct{ levels, n, first, behind int }{
		{1, 1, 0, 1}, {2, 1, 0, 2}, {2, 2, 0, 1}, {2, 3, 1, 2}, {3, 2, 0, 2}, {4, 3, 4, 8}, {4, 13, 5, 6}, {14, 1, 0, 8192}, {14, 3, 4096, 8192}, {14, 16383, 8191, 8192},
	}
	for _, r := range rows {
		first, behind, e := Under(r.levels, r.n)
		wantTwo(t, first, behind, e, r.first, r.behind, api.OK, "Under", r.levels, r.n)
	}
}

// P16.2: of a leaf: itself.
func TestUnderLeaves(t *testing.T) {
	everyTree(func(x tree) {
		for k, b := range x.leaves {
			first, behind, e := Under(x.levels, b.number)
			wantTwo(t, first, behind, e, k, k+1, api.OK, "Under", x.levels, b.number)
		}
	})
}

// P16.3: odd and even numbers of levels that are parted.
func TestSplit(t *testing.T) {
	rows := []struct{ levels, upper, lower int }{
		{2, 1, 1}, {3, 1, 2}, {4, 2, 2}, {5, 2, 3}, {6, 3, 3}, {7, 3, 4}, {8, 4, 4}, {9, 4, 5}, {10, 5, 5}, {11, 5, 6}, {12, 6, 6}, {13, 6, 7}, {14, 7, 7},
	}
	for _, r := range rows {
		upper, lower, e := Split(r.levels)
		wantTwo(t, upper, lower, e, r.upper, r.lower, api.OK, "Split", r.levels)
	}
}

// P16.3: a tree of one level has no parts.
func TestSplitOfOne(t *testing.T) {
	upper, lower, e := Split(1)
	wantTwo(t, upper, lower, e, 0, 0, api.ErrNone, "Split", 1)
}

// The root of a tree of one level is its leaf.
func TestOneLevel(t *testing.T) {
	k, e := Size(1)
	wantNumber(t, k, e, 1, api.OK, "Size", 1)
	k, e = Leaf(1, 0)
	wantNumber(t, k, e, 1, api.OK, "Leaf", 1, 0)
	k, e = Depth(1, 1)
	wantNumber(t, k, e, 0, api.OK, "Depth", 1, 1)
	l, e := Path(1, 1)
	wantPath(t, l, e, []int{1}, api.OK, "Path", 1, 1)
	first, behind, e := Under(1, 1)
	wantTwo(t, first, behind, e, 0, 1, api.OK, "Under", 1, 1)
}

// P16.1 to P16.3: levels that no tree has, whatever stands behind them.
func TestLevelsRefused(t *testing.T) {
	for _, levels := range noLevels() {
		k, e := Size(levels)
		wantNumber(t, k, e, 0, api.ErrArg, "Size", levels)
		upper, lower, e := Split(levels)
		wantTwo(t, upper, lower, e, 0, 0, api.ErrArg, "Split", levels)
		for _, n := range append(outside(), 0, 1, 2, 3, 5, 8192, 16383) {
			k, e = Leaf(levels, n)
			wantNumber(t, k, e, 0, api.ErrArg, "Leaf", levels, n)
			k, e = Depth(levels, n)
			wantNumber(t, k, e, 0, api.ErrArg, "Depth", levels, n)
			l, e := Path(levels, n)
			wantPath(t, l, e, nil, api.ErrArg, "Path", levels, n)
			first, behind, e := Under(levels, n)
			wantTwo(t, first, behind, e, 0, 0, api.ErrArg, "Under", levels, n)
		}
	}
}

// P16.1 and P16.2: what is no node of a tree: 0, what is below, and what is behind the last one, though it be one of a greater tree.
func TestNodesRefused(t *testing.T) {
	everyTree(func(x tree) {
		last := len(x.nodes)
		wrong := noNodes(last)
		if x.levels < api.MaxTree {
			wrong = append(wrong, 3*last, 8192, 16383)
		}
		for _, n := range wrong {
			k, e := Depth(x.levels, n)
			wantNumber(t, k, e, 0, api.ErrArg, "Depth", x.levels, n)
			l, e := Path(x.levels, n)
			wantPath(t, l, e, nil, api.ErrArg, "Path", x.levels, n)
			first, behind, e := Under(x.levels, n)
			wantTwo(t, first, behind, e, 0, 0, api.ErrArg, "Under", x.levels, n)
		}
	})
}

// P16.1: what is no leaf of a tree: the one behind the last, though it be one of a greater tree, and what is below 0.
func TestLeavesRefused(t *testing.T) {
	everyTree(func(x tree) {
		for _, k := range noLeaves(len(x.leaves)) {
			n, e := Leaf(x.levels, k)
			wantNumber(t, n, e, 0, api.ErrArg, "Leaf", x.levels, k)
		}
	})
}

// P16.4: a path that was answered is its caller's alone, to the last element of its array.
func TestPathIsNewMemory(t *testing.T) {
	everyTree(func(x tree) {
		for _, n := range []int{1, len(x.nodes)/2 + 1, len(x.nodes)} {
			one := mustPath(t, x.levels, n)
			other := mustPath(t, x.levels, n)
			want := slices.Clone(one)
			whole := one[:cap(one)]
			for i := range whole {
				whole[i] = -7
			}
			if !slices.Equal(other, want) {
				t.Errorf("Path[%d %d] shares its memory: %v; want %v", x.levels, n, other, want)
			}
			wantPath(t, mustPath(t, x.levels, n), api.OK, want, api.OK, "Path, asked again", x.levels, n)
		}
	})
}

// P16.4: answers hang on nothing that was asked ahead, refused calls among them.
func TestNothingIsKept(t *testing.T) {
	ask := func() []int {
		var told []int
		for levels := 1; levels <= 6; levels++ {
			for n := -1; n <= 1<<levels; n++ {
				k, e := Leaf(levels, n)
				d, f := Depth(levels, n)
				first, behind, g := Under(levels, n)
				l, h := Path(levels, n)
				told = append(told, k, int(e), d, int(f), first, behind, int(g), int(h))
				told = append(told, l...)
			}
		}
		return told
	}
	want := ask()
	for _, levels := range noLevels() {
		Size(levels)
		Split(levels)
		Path(levels, 1)
		if !slices.Equal(ask(), want) {
			t.Fatalf("answers are others behind %d levels", levels)
		}
	}
}

// P16.5: the leaves under a node are those under the left one below it, and those under the right one, behind each other.
func TestLeavesBehindEachOther(t *testing.T) {
	for levels := 1; levels <= api.MaxTree; levels++ {
		size, e := Size(levels)
		for n := 1; 2*n+1 <= must(t, size, e); n++ {
			first, behind := mustUnder(t, levels, n)
			left, mid := mustUnder(t, levels, 2*n)
			next, right := mustUnder(t, levels, 2*n+1)
			if first != left || mid != next || right != behind || mid-left != right-next {
				t.Fatalf("of %d levels, under %d: %d to %d; below it: %d to %d, %d to %d", levels, n, first, behind, left, mid, next, right)
			}
		}
	}
}

// P16.5: each leaf is its own under its node, and under those of its path, and under no other of their depths.
func TestLeavesUnderTheirPaths(t *testing.T) {
	for levels := 1; levels <= 8; levels++ {
		for k := range 1 << (levels - 1) {
			leaf, e := Leaf(levels, k)
			path := mustPath(t, levels, must(t, leaf, e))
			if len(path) != levels {
				t.Fatalf("of %d levels: the path of leaf %d is %v", levels, k, path)
			}
			for n := 1; n < 1<<levels; n++ {
				first, behind := mustUnder(t, levels, n)
				if is := first <= k && k < behind; is != slices.Contains(path, n) {
					t.Fatalf("of %d levels: leaf %d under %d is %v; its path is %v", levels, k, n, is, path)
				}
			}
		}
	}
}

// P16.5: a node's path is that of the node above it, and itself; its depth is how many stand above it.
func TestPathsGrow(t *testing.T) {
	for levels := 1; levels <= api.MaxTree; levels++ {
		size, e := Size(levels)
		for n := 2; n <= must(t, size, e); n++ {
			path := mustPath(t, levels, n)
			above := mustPath(t, levels, n/2)
			if !slices.Equal(path, append(above, n)) {
				t.Fatalf("of %d levels: the path of %d is %v, above it %v", levels, n, path, above)
			}
			depth, e := Depth(levels, n)
			wantNumber(t, depth, e, len(path)-1, api.OK, "Depth", levels, n)
		}
	}
}

// P16.5: the nodes of an upper part are those of depths below its levels; what is left hangs below its leaves, two lower parts each.
func TestUpperParts(t *testing.T) {
	for levels := 2; levels <= api.MaxTree; levels++ {
		upper, lower, e := Split(levels)
		if e != api.OK || upper+lower != levels || upper < 1 || lower < upper {
			t.Fatalf("Split[%d] = %d, %d, %d", levels, upper, lower, int(e))
		}
		all, e := Size(levels)
		above, f := Size(upper)
		part, g := Size(lower)
		if must(t, all, e) != must(t, above, f)+(above+1)*must(t, part, g) {
			t.Errorf("of %d levels: %d nodes are not %d, and %d times %d", levels, all, above, above+1, part)
		}
		for n := 1; n <= all; n++ {
			depth, e := Depth(levels, n)
			if is := n <= above; is != (must(t, depth, e) < upper) {
				t.Fatalf("of %d levels: node %d, depth %d, is of the upper part: %v", levels, n, depth, is)
			}
			if n > above {
				continue
			}
			alone, e := Depth(upper, n)
			wantNumber(t, alone, e, depth, api.OK, "Depth of the upper part", upper, n)
			wantPath(t, mustPath(t, upper, n), api.OK, mustPath(t, levels, n), api.OK, "Path of the upper part", upper, n)
		}
	}
}

// Depths are yielded from the root's on, as often as they are gone through, and no farther than they are asked for.
func TestDepths(t *testing.T) {
	for n, want := range map[int][]int{1: {0}, 2: {0, 1}, 3: {0, 1}, 4: {0, 1, 2}, 7: {0, 1, 2}, 8: {0, 1, 2, 3}} {
		all := depths(n)
		for range 2 {
			if got := slices.Collect(all); !slices.Equal(got, want) {
				t.Errorf("depths of %d = %v; want %v", n, got, want)
			}
		}
		for depth := range all {
			if depth != 0 {
				t.Errorf("depths of %d begin with %d", n, depth)
			}
			break
		}
	}
}
