package mark_test

import (
	"crypto/sha256"
	"math"
	"math/rand"
	"slices"
	"testing"

	"burrow/api"
	"burrow/mark"
	"burrow/seat"
	"burrow/tree"
	"burrow/wire"
)

func leaf(name int) api.Node {
	return api.Node{Used: true, Name: name, Key: api.Key{byte(name), 1}, Sign: api.Key{byte(name), 2}}
}

// digest is the digest of a node, by the definition.
func digest(t api.Tree, x int, without []int) api.Sum {
	n := t[x]
	if x%2 == 0 {
		if slices.Contains(without, x/2) {
			n = api.Node{}
		}
		b, _ := wire.PutNode(n)
		return sha256.Sum256(append([]byte{1, byte(x / 2)}, b...))
	}
	n.Unmerged = slices.DeleteFunc(slices.Clone(n.Unmerged), func(i int) bool { return slices.Contains(without, i) })
	b, _ := wire.PutNode(n)
	l, r := seat.Children(x)
	one, two := digest(t, l, without), digest(t, r, without)
	all := append([]byte{2}, b...)
	all = append(all, one[:]...)
	return sha256.Sum256(append(all, two[:]...))
}

// marked is the mark of a node for a child, by the definition.
func marked(t api.Tree, x, child int) api.Sum {
	below := digest(t, seat.Sibling(child, seat.Leaves(len(t))), t[x].Unmerged)
	all := append([]byte{3}, t[x].Key[:]...)
	all = append(all, t[x].Parent[:]...)
	return sha256.Sum256(append(all, below[:]...))
}

// bound tells whether a valid tree is bound, by the definition.
func bound(t api.Tree) bool {
	for x, n := range t {
		if x%2 == 0 || !n.Used {
			continue
		}
		is := false
		l, r := seat.Children(x)
		for _, c := range []int{l, r} {
			first, last := seat.Below(c, seat.Leaves(len(t)))
			nodes := tree.Resolution(t, c)
			for _, d := range nodes {
				want := map[int]int{d: 1}
				for _, i := range n.Unmerged {
					if first <= i && i <= last {
						want[2*i]++
					}
				}
				got := map[int]int{}
				for _, y := range nodes {
					got[y]++
				}
				same := len(got) == len(want) && want[d] == 1
				for y := range want {
					same = same && got[y] == 1
				}
				is = is || same && t[d].Parent == marked(t, x, c)
			}
		}
		if !is {
			return false
		}
	}
	return true
}

type source struct{ *rand.Rand }

func sourceOf(seed int64) source { return source{rand.New(rand.NewSource(seed))} }

func (s source) key() (k api.Key) {
	s.Read(k[:])
	return k
}

func (s source) some(t api.Tree) int {
	var list []int
	for i := range tree.Members(t) {
		list = append(list, i)
	}
	return list[s.Intn(len(list))]
}

// renew gives a leaf new keys above it, bound from the root down.
func (s source) renew(t api.Tree, i int) api.Tree {
	out := tree.Copy(t)
	many := seat.Leaves(len(t))
	way := []int{2 * i}
	for x := range seat.Path(2*i, many) {
		out[x] = api.Node{}
		if len(tree.Resolution(t, seat.Sibling(child(x, i, many), many))) > 0 {
			out[x] = api.Node{Used: true, Key: s.key()}
			way = append(way, x)
		}
	}
	out[2*i].Key = s.key()
	out[2*i].Parent = api.Sum{}
	for k := len(way) - 2; k >= 0; k-- {
		up := way[k+1]
		out[way[k]].Parent = marked(out, up, child(up, i, many))
	}
	return out
}

// child is the child of x that is above leaf i, or is it.
func child(x, i, many int) int {
	l, r := seat.Children(x)
	if first, last := seat.Below(l, many); first <= i && i <= last {
		return l
	}
	return r
}

// tree is a tree that comes of changes as members make them; it is bound.
func (s source) tree(changes int) api.Tree {
	t := api.Tree{leaf(s.Intn(256))}
	for range changes {
		switch s.Intn(7) {
		case 0, 1, 2:
			if next, _, err := tree.Add(t, leaf(s.Intn(256))); err == nil {
				t = next
			}
		case 3, 4:
			t = s.renew(t, s.some(t))
		case 5:
			if next, err := tree.Remove(t, s.some(t)); err == nil {
				t = next
			}
		case 6:
			i := s.some(t)
			t, _ = tree.Update(t, i, leaf(t[2*i].Name))
		}
	}
	return t
}

// same checks all that can be asked of a valid tree.
func same(t *testing.T, s source, x api.Tree) {
	t.Helper()
	root := seat.Root(seat.Leaves(len(x)))
	if got, ok := mark.Tree(x); !ok || got != digest(x, root, nil) {
		t.Fatal("tree")
	}
	for n := range x {
		var without []int
		for range s.Intn(4) {
			without = append(without, s.Intn(36)-2)
		}
		if got, ok := mark.Digest(x, n, without...); !ok || got != digest(x, n, without) {
			t.Fatal("digest", n, without)
		}
		if got, ok := mark.Digest(x, n); !ok || got != digest(x, n, nil) {
			t.Fatal("digest", n)
		}
		l, r := seat.Children(n)
		for _, c := range []int{l, r} {
			got, ok := mark.Mark(x, n, c)
			if n%2 == 1 && (!ok || got != marked(x, n, c)) || n%2 == 0 && (ok || got != api.Sum{}) {
				t.Fatal("mark", n, c)
			}
		}
	}
	if mark.Bound(x) != bound(x) {
		t.Fatal("bound", bound(x))
	}
}

func TestTrees(t *testing.T) {
	s := sourceOf(1)
	for n := range 150 {
		x := s.tree(n % 70)
		if !mark.Bound(x) {
			t.Fatal("not bound", n)
		}
		same(t, s, x)
	}
}

func TestTreesThatAreNotBound(t *testing.T) {
	s := sourceOf(2)
	open, closed := 0, 0
	for range 500 {
		x := tree.Copy(s.tree(10 + s.Intn(50)))
		n := &x[s.Intn(len(x))]
		switch s.Intn(8) {
		case 0:
			n.Key[s.Intn(32)]++
		case 1, 2:
			n.Parent[s.Intn(32)]++
		case 3:
			n.Sign[s.Intn(32)]++
		case 4:
			n.Name = (n.Name + 1) % 256
		case 5:
			n.Unmerged = append(n.Unmerged, s.Intn(32))
			slices.Sort(n.Unmerged)
		case 6:
			if len(n.Unmerged) > 0 {
				n.Unmerged = n.Unmerged[1:]
			}
		case 7:
			n.Used = true
		}
		if tree.Check(x) != nil {
			nothing(t, x)
			continue
		}
		if bound(x) {
			closed++
		} else {
			open++
		}
		same(t, s, x)
	}
	if open < 60 || closed < 20 {
		t.Error("too few of a kind", open, closed)
	}
}

// nothing checks that nothing comes of a tree that isn't valid.
func nothing(t *testing.T, x api.Tree) {
	t.Helper()
	if d, ok := mark.Tree(x); ok || d != (api.Sum{}) {
		t.Error("tree")
	}
	for n := range 7 {
		if d, ok := mark.Digest(x, n); ok || d != (api.Sum{}) {
			t.Error("digest", n)
		}
		l, r := seat.Children(n)
		for _, c := range []int{l, r} {
			if d, ok := mark.Mark(x, n, c); ok || d != (api.Sum{}) {
				t.Error("mark", n, c)
			}
		}
	}
	if mark.Bound(x) {
		t.Error("bound")
	}
}

func TestWhatIsNotValid(t *testing.T) {
	nothing(t, nil)
	nothing(t, make(api.Tree, 3))
	nothing(t, api.Tree{leaf(1), {}, leaf(1)})
	nothing(t, api.Tree{leaf(1), {}})
	nothing(t, api.Tree{leaf(1), {Key: api.Key{1}}, leaf(2)})
	for n := range 70 {
		if n != 1 && n != 3 && n != 7 && n != 15 && n != 31 && n != 63 {
			x := make(api.Tree, n)
			for i := 0; i < n; i += 2 {
				x[i] = leaf(i)
			}
			nothing(t, x)
		}
	}
}

func TestWhatIsNoNode(t *testing.T) {
	x := api.Tree{leaf(1), {}, leaf(2)}
	for _, n := range []int{-1, 3, 4, 5, 7, math.MinInt, math.MaxInt, 1 << 40} {
		if d, ok := mark.Digest(x, n); ok || d != (api.Sum{}) {
			t.Error("digest", n)
		}
		l, r := seat.Children(n)
		for _, c := range []int{l, r, 0, 1, 2, -1, n} {
			if d, ok := mark.Mark(x, n, c); ok || d != (api.Sum{}) {
				t.Error("mark", n, c)
			}
		}
	}
	for _, c := range []int{-1, 1, 3, 4, math.MinInt, math.MaxInt} {
		if d, ok := mark.Mark(x, 1, c); ok || d != (api.Sum{}) {
			t.Error("no child", c)
		}
		if d, ok := mark.Mark(x, 0, c); ok || d != (api.Sum{}) {
			t.Error("a leaf has no child", c)
		}
	}
	if _, ok := mark.Mark(x, 1, 0); !ok {
		t.Error("a node that isn't used has marks too")
	}
}

func TestExample(t *testing.T) {
	if !mark.Bound(api.Tree{leaf(1)}) {
		t.Error("one leaf")
	}
	root := api.Node{Used: true, Key: api.Key{7}}
	x := api.Tree{leaf(1), root, leaf(2)}
	if mark.Bound(x) {
		t.Error("bound by nobody")
	}
	x[2].Parent = marked(x, 1, 2)
	if !mark.Bound(x) {
		t.Error("bound from the right")
	}
	x[1].Unmerged = []int{1}
	if mark.Bound(x) {
		t.Error("who binds can't be unmerged")
	}
}

func TestTreesThatDiffer(t *testing.T) {
	s := sourceOf(3)
	seen := map[api.Sum]api.Tree{}
	add := func(x api.Tree) {
		if tree.Check(x) != nil {
			return
		}
		d, _ := mark.Tree(x)
		if y, ok := seen[d]; ok && !tree.Same(x, y) {
			t.Error("two trees have one digest")
		}
		seen[d] = tree.Copy(x)
	}
	for range 150 {
		x := s.tree(s.Intn(40))
		add(x)
		for at := range x {
			for what := range 5 {
				y := tree.Copy(x)
				switch what {
				case 0:
					y[at].Key[s.Intn(32)]++
				case 1:
					y[at].Sign[s.Intn(32)]++
				case 2:
					y[at].Parent[s.Intn(32)]++
				case 3:
					y[at].Name++
				case 4:
					y[at].Unmerged = append(y[at].Unmerged, s.Intn(32))
				}
				add(y)
			}
		}
	}
	add(api.Tree{leaf(1), {}, leaf(2)})
	add(api.Tree{leaf(2), {}, leaf(1)})
}

func TestArgumentsStay(t *testing.T) {
	s := sourceOf(4)
	for range 40 {
		x := s.tree(50)
		kept := tree.Copy(x)
		without := append(make([]int, 0, 9), 3, 1, 2)
		mark.Tree(x)
		mark.Bound(x)
		for n := range x {
			mark.Digest(x, n, without...)
			l, _ := seat.Children(n)
			mark.Mark(x, n, l)
		}
		if !tree.Same(x, kept) || !slices.Equal(without[:5], []int{3, 1, 2, 0, 0}) {
			t.Fatal("an argument was changed")
		}
	}
}
