package tree_test

import (
	"errors"
	"math"
	"math/rand"
	"slices"
	"testing"

	"burrow/api"
	"burrow/tree"
)

// leaf is a used leaf of a name.
func leaf(name int) api.Node {
	return api.Node{Used: true, Name: name, Key: api.Key{byte(name), 1}, Sign: api.Key{byte(name), 2}, Parent: api.Sum{byte(name), 3}}
}

// over is a used node above leaves.
func over(n int, unmerged ...int) api.Node {
	return api.Node{Used: true, Key: api.Key{byte(n), 9}, Parent: api.Sum{byte(n), 8}, Unmerged: unmerged}
}

// span is the first and the last leaf below a node, and its children, found from the root down.
func span(x, many int) (first, last, left, right int) {
	first, last = 0, many-1
	for first+last != x {
		half := (first + last) / 2
		if x < first+last {
			last = half
		} else {
			first = half + 1
		}
	}
	if first == last {
		return first, last, -1, -1
	}
	half := (first + last) / 2
	return first, last, first + half, half + 1 + last
}

// above are the nodes above a leaf, from the lowest one on.
func above(i, many int) []int {
	var out []int
	for x := range 2*many - 1 {
		if first, last, left, _ := span(x, many); first <= i && i <= last && left >= 0 {
			out = append(out, x)
		}
	}
	slices.SortFunc(out, func(a, b int) int {
		fa, la, _, _ := span(a, many)
		fb, lb, _, _ := span(b, many)
		return (la - fa) - (lb - fb)
	})
	return out
}

func equal(a, b api.Node) bool {
	return a.Used == b.Used && a.Name == b.Name && a.Key == b.Key && a.Sign == b.Sign && a.Parent == b.Parent && slices.Equal(a.Unmerged, b.Unmerged)
}

// valid tells whether a tree is valid, by the definition.
func valid(t api.Tree) bool {
	many := (len(t) + 1) / 2
	if !slices.Contains([]int{1, 3, 7, 15, 31, 63}, len(t)) {
		return false
	}
	right := false
	for x, n := range t {
		first, last, left, _ := span(x, many)
		if !n.Used {
			if !equal(n, api.Node{}) {
				return false
			}
			continue
		}
		if left < 0 {
			right = right || first >= many/2
			if n.Name < 0 || n.Name > 255 || len(n.Unmerged) > 0 {
				return false
			}
			for y := 0; y < x; y += 2 {
				if t[y].Used && t[y].Name == n.Name {
					return false
				}
			}
			continue
		}
		if n.Name != 0 || n.Sign != (api.Key{}) {
			return false
		}
		for k, u := range n.Unmerged {
			if k > 0 && u <= n.Unmerged[k-1] || u < first || u > last || !t[2*u].Used {
				return false
			}
			for _, z := range above(u, many) {
				if z == x {
					break
				}
				if t[z].Used && !slices.Contains(t[z].Unmerged, u) {
					return false
				}
			}
		}
	}
	return right
}

// resolved is the resolution of a node, by the definition.
func resolved(t api.Tree, x int) []int {
	many := (len(t) + 1) / 2
	if t[x].Used {
		out := []int{x}
		for _, u := range t[x].Unmerged {
			out = append(out, 2*u)
		}
		return out
	}
	_, _, left, right := span(x, many)
	if left < 0 {
		return nil
	}
	return append(resolved(t, left), resolved(t, right)...)
}

// good checks everything that can be asked of a valid tree.
func good(t *testing.T, x api.Tree) {
	t.Helper()
	if err := tree.Check(x); err != nil || !valid(x) {
		t.Fatal("not valid", len(x), err)
	}
	many := (len(x) + 1) / 2
	names := map[int]int{}
	var leaves []int
	for i := range many {
		if x[2*i].Used {
			names[x[2*i].Name] = i
			leaves = append(leaves, i)
		}
	}
	var got []int
	for i, n := range tree.Members(x) {
		if !equal(n, x[2*i]) {
			t.Fatal("member", i)
		}
		got = append(got, i)
	}
	if !slices.Equal(got, leaves) {
		t.Fatal("members", got, leaves)
	}
	for _, name := range []int{-1, 0, 1, 2, 3, 255, 256, math.MinInt, math.MaxInt} {
		want, ok := names[name]
		if !ok {
			want = -1
		}
		if tree.Find(x, name) != want {
			t.Fatal("find", name)
		}
	}
	for name, i := range names {
		if tree.Find(x, name) != i {
			t.Fatal("find", name)
		}
	}
	for n := range x {
		if !slices.Equal(tree.Resolution(x, n), resolved(x, n)) {
			t.Fatal("resolution", n)
		}
	}
	for _, n := range []int{-1, len(x), len(x) + 1, math.MinInt, math.MaxInt, 1 << 40} {
		if len(tree.Resolution(x, n)) != 0 {
			t.Fatal("resolution of no node", n)
		}
	}
	covered(t, x)
}

// covered checks that each used leaf is below exactly one node of the root's resolution.
func covered(t *testing.T, x api.Tree) {
	t.Helper()
	many := (len(x) + 1) / 2
	for i := range many {
		if !x[2*i].Used {
			continue
		}
		times := 0
		for _, n := range tree.Resolution(x, many-1) {
			first, last, _, _ := span(n, many)
			if first <= i && i <= last && !slices.Contains(x[n].Unmerged, i) {
				times++
			}
		}
		if times != 1 {
			t.Fatal("leaf", i, "is covered", times)
		}
	}
}

// bad checks that nothing comes of a tree that isn't valid.
func bad(t *testing.T, what string, x api.Tree) {
	t.Helper()
	if err := tree.Check(x); !errors.Is(err, api.ErrForm) {
		t.Error(what, "check", err)
	}
	for range tree.Members(x) {
		t.Error(what, "members")
	}
	for _, n := range []int{0, 1, 2, 3} {
		if tree.Find(x, n) != -1 || len(tree.Resolution(x, n)) != 0 {
			t.Error(what, "find, resolution", n)
		}
		if out, err := tree.Update(x, n, leaf(200)); !errors.Is(err, api.ErrForm) || out != nil {
			t.Error(what, "update", err)
		}
		if out, err := tree.Remove(x, n); !errors.Is(err, api.ErrForm) || out != nil {
			t.Error(what, "remove", err)
		}
	}
	if out, i, err := tree.Add(x, leaf(200)); !errors.Is(err, api.ErrForm) || out != nil || i != 0 {
		t.Error(what, "add", err)
	}
}

// source makes trees.
type source struct{ *rand.Rand }

func sourceOf(seed int64) source { return source{rand.New(rand.NewSource(seed))} }

// fill puts used nodes above a leaf, as a member's new path does.
func (s source) fill(t api.Tree, i int) api.Tree {
	out := tree.Copy(t)
	for _, x := range above(i, (len(t)+1)/2) {
		out[x] = over(s.Intn(256))
		if s.Intn(5) == 0 {
			out[x] = api.Node{}
		}
	}
	return out
}

// some is a used leaf.
func (s source) some(t api.Tree) int {
	var list []int
	for i := range tree.Members(t) {
		list = append(list, i)
	}
	return list[s.Intn(len(list))]
}

// tree is a tree that comes of a number of changes.
func (s source) tree(changes int) api.Tree {
	t := api.Tree{leaf(s.Intn(256))}
	for range changes {
		switch s.Intn(6) {
		case 0, 1, 2:
			if next, _, err := tree.Add(t, leaf(s.Intn(256))); err == nil {
				t = next
			}
		case 3:
			t = s.fill(t, s.some(t))
		case 4:
			if next, err := tree.Remove(t, s.some(t)); err == nil && s.Intn(2) == 0 {
				t = next
			}
		case 5:
			i := s.some(t)
			t, _ = tree.Update(t, i, leaf(t[2*i].Name))
		}
	}
	return t
}

func TestTreesOfManyChanges(t *testing.T) {
	s := sourceOf(1)
	sizes := map[int]int{}
	for n := range 250 {
		x := s.tree(n % 130)
		good(t, x)
		sizes[len(x)]++
	}
	if len(sizes) < 6 {
		t.Error("sizes", sizes)
	}
}

func TestChangedTreesAreRefused(t *testing.T) {
	s := sourceOf(2)
	wrong := 0
	for range 2500 {
		x := tree.Copy(s.tree(s.Intn(60)))
		at := s.Intn(len(x))
		n := &x[at]
		switch s.Intn(12) {
		case 0:
			n.Used = !n.Used
		case 1:
			n.Name = []int{0, 1, -1, 255, 256, x[2*s.Intn((len(x)+1)/2)].Name}[s.Intn(6)]
		case 2:
			n.Key[s.Intn(32)]++
		case 3:
			n.Sign[s.Intn(32)]++
		case 4:
			n.Parent[s.Intn(32)]++
		case 5, 6:
			n.Unmerged = append(n.Unmerged, s.Intn(34)-1)
		case 7:
			if len(n.Unmerged) > 0 {
				n.Unmerged = slices.Delete(n.Unmerged, 0, 1)
			}
		case 8:
			*n = api.Node{}
		case 9:
			*n = over(at)
		case 10:
			slices.Reverse(n.Unmerged)
		case 11:
			for y := range x {
				if y%2 == 1 && x[y].Used && s.Intn(2) == 0 && len(x[y].Unmerged) > 0 {
					x[y].Unmerged = x[y].Unmerged[1:]
				}
			}
		}
		if !valid(x) {
			wrong++
			bad(t, "changed", x)
		} else {
			good(t, x)
		}
	}
	if wrong < 300 || wrong > 2300 {
		t.Error("too few of a kind", wrong)
	}
}

func TestSizes(t *testing.T) {
	bad(t, "nil", nil)
	for n := range 140 {
		x := make(api.Tree, n)
		for i := 0; i < n; i += 2 {
			x[i] = leaf(i / 2)
		}
		if slices.Contains([]int{1, 3, 7, 15, 31, 63}, n) {
			good(t, x)
		} else {
			bad(t, "size", x)
		}
	}
}

func TestRightHalf(t *testing.T) {
	for _, many := range []int{1, 2, 4, 8, 16, 32} {
		for i := range many {
			x := make(api.Tree, 2*many-1)
			x[2*i] = leaf(7)
			if i >= many/2 {
				good(t, x)
			} else {
				bad(t, "right half", x)
			}
		}
		bad(t, "nobody", make(api.Tree, 2*many-1))
	}
}

func TestNamesOfLeaves(t *testing.T) {
	for name, ok := range map[int]bool{0: true, 255: true, -1: false, 256: false, math.MinInt: false, math.MaxInt: false} {
		x := api.Tree{leaf(1), {}, leaf(name)}
		if ok {
			good(t, x)
		} else {
			bad(t, "name", x)
		}
	}
	bad(t, "the same name", api.Tree{leaf(1), {}, leaf(1)})
	bad(t, "the same name", api.Tree{leaf(0), {}, leaf(1), {}, leaf(2), {}, leaf(0)})
}

func TestUnmerged(t *testing.T) {
	four := func(low, root api.Node) api.Tree {
		return api.Tree{leaf(1), low, leaf(2), root, leaf(3), {}, leaf(4)}
	}
	good(t, four(over(1, 0, 1), over(2, 0, 1, 2, 3)))
	good(t, four(api.Node{}, over(2, 1)))
	good(t, four(over(1, 1), over(2)))
	good(t, four(over(1, 1), over(2, 1, 3)))
	bad(t, "not unmerged between", four(over(1), over(2, 1)))
	bad(t, "not unmerged between", four(over(1, 0), over(2, 0, 1)))
	bad(t, "not below", four(over(1, 2), over(2)))
	bad(t, "falling", four(over(1, 1, 0), over(2)))
	bad(t, "twice", four(over(1, 0, 0), over(2)))
	bad(t, "no leaf", four(over(1), over(2, 4)))
	bad(t, "no leaf", four(over(1, -1), over(2)))
	bad(t, "no leaf", four(over(1), over(2, 3, math.MaxInt)))
	bad(t, "no leaf", four(over(1, math.MinInt), over(2)))
	bad(t, "a leaf with unmerged ones", api.Tree{{Used: true, Unmerged: []int{0}}})
	bad(t, "a leaf that isn't used", api.Tree{leaf(1), over(1), leaf(2), over(2, 2), {}, {}, leaf(4)})
	named, signed := over(1), over(1)
	named.Name, signed.Sign = 1, api.Key{31: 1}
	bad(t, "a name above", four(named, over(2)))
	bad(t, "a signing key above", four(signed, over(2)))
}

func TestZeroNodes(t *testing.T) {
	for i, n := range []api.Node{{Name: 1}, {Key: api.Key{1}}, {Sign: api.Key{31: 1}}, {Parent: api.Sum{5: 1}}, {Unmerged: []int{1}}} {
		bad(t, "unused, not zero", api.Tree{leaf(1), n, leaf(2)})
		bad(t, "unused, not zero", api.Tree{n, {}, leaf(2)})
		if i == 0 {
			good(t, api.Tree{{Unmerged: []int{}}, {}, leaf(2)})
		}
	}
}

func TestSameAndCopy(t *testing.T) {
	s := sourceOf(3)
	for range 100 {
		x := s.tree(40)
		y := tree.Copy(x)
		if !tree.Same(x, y) || !tree.Same(y, x) || len(y) != len(x) {
			t.Fatal("a copy")
		}
		at := s.Intn(len(y))
		switch n := &y[at]; s.Intn(6) {
		case 0:
			n.Used = !n.Used
		case 1:
			n.Name++
		case 2:
			n.Key[31]++
		case 3:
			n.Sign[31]++
		case 4:
			n.Parent[31]++
		case 5:
			n.Unmerged = append(n.Unmerged, 5)
		}
		if tree.Same(x, y) || tree.Same(y, x) {
			t.Fatal("another one")
		}
		if tree.Same(x, x[:len(x)-1]) || tree.Same(x[:len(x)-1], x) {
			t.Fatal("a shorter one")
		}
	}
	if !tree.Same(nil, api.Tree{}) || len(tree.Copy(nil)) != 0 || tree.Same(nil, api.Tree{{}}) {
		t.Error("nothing")
	}
	odd := api.Tree{{Name: -5, Unmerged: []int{9, 3}}, {}}
	if !tree.Same(odd, tree.Copy(odd)) || !tree.Same(api.Tree{{}}, api.Tree{{Unmerged: []int{}}}) {
		t.Error("what isn't valid is compared and copied too")
	}
	c := tree.Copy(odd)
	c[0].Unmerged[0] = 1
	if odd[0].Unmerged[0] != 9 {
		t.Error("a copy shares")
	}
}

func TestMembersOfAChangedTree(t *testing.T) {
	x := api.Tree{leaf(1), {}, leaf(2)}
	members := tree.Members(x)
	x[0], x[2] = api.Node{}, leaf(9)
	for range 2 {
		var names []int
		for _, n := range members {
			names = append(names, n.Name)
		}
		if !slices.Equal(names, []int{1, 2}) {
			t.Error("the argument was kept", names)
		}
	}
	for i := range members {
		if i != 0 {
			t.Error("left early")
		}
		break
	}
}
