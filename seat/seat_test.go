package seat_test

import (
	"math"
	"slices"
	"testing"

	"burrow/seat"
)

// sizes are the numbers of leaves for which there are trees.
var sizes = []int{1, 2, 4, 8, 16, 32}

// odd are numbers that are no number of leaves, no node, or neither.
var odd = []int{-1, -2, -32, math.MinInt, math.MinInt + 1, math.MaxInt, math.MaxInt - 1, 1 << 40, 1<<40 - 1}

// built is a tree that is put together from its root down.
type built struct {
	parent, left, right, first, last map[int]int
}

func build(n int) built {
	b := built{map[int]int{}, map[int]int{}, map[int]int{}, map[int]int{}, map[int]int{}}
	var grow func(from, to int) int
	grow = func(from, to int) int { // over the leaves from .. to
		x := from + to
		b.first[x], b.last[x], b.left[x], b.right[x] = from, to, -1, -1
		if from < to {
			half := (from + to) / 2
			l, r := grow(from, half), grow(half+1, to)
			b.left[x], b.right[x], b.parent[l], b.parent[r] = l, r, x, x
		}
		return x
	}
	b.parent[grow(0, n-1)] = -1
	return b
}

func TestTrees(t *testing.T) {
	for _, n := range sizes {
		b := build(n)
		if seat.Root(n) != n-1 || seat.Leaves(2*n-1) != n {
			t.Error("root, leaves", n)
		}
		for x := range 2*n - 1 {
			l, r := seat.Children(x)
			if l != b.left[x] || r != b.right[x] || seat.Parent(x, n) != b.parent[x] {
				t.Error("children, parent", n, x)
			}
			level := 0
			for y := b.left[x]; y >= 0; y = b.left[y] {
				level++
			}
			if seat.Level(x) != level {
				t.Error("level", n, x)
			}
			sibling := -1
			if p := b.parent[x]; p >= 0 {
				sibling = b.left[p] + b.right[p] - x
			}
			if seat.Sibling(x, n) != sibling {
				t.Error("sibling", n, x)
			}
			if f, l := seat.Below(x, n); f != b.first[x] || l != b.last[x] {
				t.Error("below", n, x)
			}
			if !slices.Equal(slices.Collect(seat.Path(x, n)), path(b, x)) {
				t.Error("path", n, x)
			}
		}
	}
}

// path is the path of x, from parent to parent.
func path(b built, x int) []int {
	var out []int
	for p := b.parent[x]; p >= 0; p = b.parent[p] {
		out = append(out, p)
	}
	return out
}

func TestCommon(t *testing.T) {
	for _, n := range sizes {
		b := build(n)
		for x := range 2*n - 1 {
			for y := range 2*n - 1 {
				mine, theirs := append([]int{x}, path(b, x)...), append([]int{y}, path(b, y)...)
				want := -1
				for _, z := range mine {
					if want < 0 && slices.Contains(theirs, z) {
						want = z
					}
				}
				if seat.Common(x, y, n) != want {
					t.Error("common", n, x, y)
				}
			}
		}
	}
}

func TestExample(t *testing.T) {
	l, r := seat.Children(3)
	if seat.Root(4) != 3 || l != 1 || r != 5 || !slices.Equal(slices.Collect(seat.Path(4, 4)), []int{5, 3}) {
		t.Error("n = 4")
	}
}

func TestWhatIsNoNode(t *testing.T) {
	for _, n := range sizes {
		for _, x := range append([]int{2*n - 1, 2 * n, 2*n + 1, 4*n - 1, 4 * n, 64, 63}, odd...) {
			if x == 63 && n > 32 {
				continue
			}
			if seat.Parent(x, n) != -1 || seat.Sibling(x, n) != -1 {
				t.Error("parent, sibling", n, x)
			}
			if f, l := seat.Below(x, n); f != -1 || l != -1 {
				t.Error("below", n, x)
			}
			for range seat.Path(x, n) {
				t.Error("path", n, x)
			}
			for _, y := range []int{0, n - 1, 2*n - 2, x} {
				if seat.Common(x, y, n) != -1 || seat.Common(y, x, n) != -1 {
					t.Error("common", n, x, y)
				}
			}
		}
	}
}

func TestWhatIsNoTree(t *testing.T) {
	for _, n := range append([]int{0, 3, 5, 6, 7, 12, 31, 33, 48, 63, 64, 128, 1 << 31, 1 << 32, 1 << 62}, odd...) {
		if seat.Root(n) != -1 {
			t.Error("root", n)
		}
		for _, x := range []int{0, 1, 2, 3, -1, n, n - 1, math.MaxInt} {
			if seat.Parent(x, n) != -1 || seat.Sibling(x, n) != -1 || seat.Common(x, x, n) != -1 || seat.Common(0, x, n) != -1 {
				t.Error("a node of no tree", n, x)
			}
			if f, l := seat.Below(x, n); f != -1 || l != -1 {
				t.Error("below", n, x)
			}
			for range seat.Path(x, n) {
				t.Fatal("path", n, x)
			}
		}
	}
}

func TestLeaves(t *testing.T) {
	for nodes := -70; nodes < 300; nodes++ {
		want := 0
		for _, n := range sizes {
			if nodes == 2*n-1 {
				want = n
			}
		}
		if seat.Leaves(nodes) != want {
			t.Error("leaves", nodes, seat.Leaves(nodes))
		}
	}
	for _, nodes := range odd {
		if seat.Leaves(nodes) != 0 {
			t.Error("leaves", nodes)
		}
	}
}

func TestLevelsOfAllNumbers(t *testing.T) {
	for x := range 3000 {
		level := 0
		for y := x; y%2 == 1; y /= 2 {
			level++
		}
		if seat.Level(x) != level {
			t.Error("level", x)
		}
		l, r := seat.Children(x)
		if level == 0 && (l != -1 || r != -1) || level > 0 && (l != x-1<<(level-1) || r != x+1<<(level-1)) {
			t.Error("children", x, l, r)
		}
	}
	for k := range 62 {
		x := 1<<k - 1
		if seat.Level(x) != k || seat.Level(x+1<<k<<1) != k {
			t.Error("level of ones", k)
		}
	}
	if seat.Level(math.MaxInt) != 63 {
		t.Error("all ones")
	}
	for _, x := range []int{-1, -2, -3, -8, math.MinInt, math.MinInt + 1} {
		if l, r := seat.Children(x); seat.Level(x) != -1 || l != -1 || r != -1 {
			t.Error("negative", x)
		}
	}
}

func TestPathLeftEarlyAndTwice(t *testing.T) {
	p := seat.Path(0, 32)
	for range 2 {
		var got []int
		for x := range p {
			if got = append(got, x); len(got) == 3 {
				break
			}
		}
		if !slices.Equal(got, []int{1, 3, 7}) {
			t.Error(got)
		}
	}
}
