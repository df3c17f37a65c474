package tree_test

import (
	"errors"
	"math"
	"slices"
	"testing"

	"burrow/api"
	"burrow/tree"
)

// blanked is a tree without the nodes above a leaf.
func blanked(t api.Tree, i int) api.Tree {
	out := tree.Copy(t)
	for _, x := range above(i, (len(t)+1)/2) {
		out[x] = api.Node{}
	}
	return out
}

// added is what Add must return, by the definition.
func added(t api.Tree, n api.Node) (api.Tree, int) {
	many := (len(t) + 1) / 2
	i := 0
	for i < many && t[2*i].Used {
		i++
	}
	out := tree.Copy(t)
	if i == many {
		out = append(out, make(api.Tree, len(t)+1)...)
		many *= 2
	}
	out[2*i] = n
	for _, x := range above(i, many) {
		if out[x].Used {
			out[x].Unmerged = append(out[x].Unmerged, i)
			slices.Sort(out[x].Unmerged)
		}
	}
	return out, i
}

// removed is what Remove must return, by the definition.
func removed(t api.Tree, i int) api.Tree {
	out := blanked(t, i)
	out[2*i] = api.Node{}
	for len(out) > 1 {
		used := false
		for x := len(out)/2 + 1; x < len(out); x += 2 {
			used = used || out[x].Used
		}
		if used {
			break
		}
		out = out[:len(out)/2]
	}
	return out
}

// unchanged checks that a call leaves its tree alone, and shares nothing with it.
func unchanged(t *testing.T, x, kept, out api.Tree) {
	t.Helper()
	if !tree.Same(x, kept) {
		t.Fatal("the argument was changed")
	}
	want := tree.Copy(out)
	for i := range x {
		for k := range x[i].Unmerged {
			x[i].Unmerged[k] = 77
		}
		x[i] = api.Node{Name: 99}
	}
	if !tree.Same(out, want) {
		t.Fatal("the result shares with the argument")
	}
	if cap(out) > len(out) {
		for _, n := range out[:cap(out)][len(out):] {
			if !equal(n, api.Node{}) {
				t.Fatal("something is left behind the end")
			}
		}
	}
	for i := range out {
		for k := range i {
			if len(out[i].Unmerged) > 0 && len(out[k].Unmerged) > 0 && &out[i].Unmerged[0] == &out[k].Unmerged[0] {
				t.Fatal("two lists share")
			}
		}
	}
}

func TestAdd(t *testing.T) {
	s := sourceOf(4)
	for n := range 300 {
		x := s.tree(n % 100)
		kept, name := tree.Copy(x), s.Intn(256)
		out, i, err := tree.Add(x, leaf(name))
		switch {
		case tree.Find(x, name) >= 0:
			if !errors.Is(err, api.ErrMember) || out != nil || i != 0 {
				t.Fatal("a name that is there", err)
			}
		default:
			want, at := added(x, leaf(name))
			if at == 32 {
				if !errors.Is(err, api.ErrFull) || out != nil || i != 0 {
					t.Fatal("a full tree", err)
				}
				continue
			}
			if err != nil || i != at || !tree.Same(out, want) {
				t.Fatal("add", i, at, err)
			}
			good(t, out)
			unchanged(t, x, kept, out)
		}
	}
}

// wrongLeaves are nodes that can't be a used leaf.
func wrongLeaves() []api.Node {
	with := leaf(1)
	with.Unmerged = []int{0}
	return []api.Node{{}, {Name: 1}, with, leaf(-1), leaf(256), leaf(math.MinInt), leaf(math.MaxInt)}
}

func TestAddErrors(t *testing.T) {
	x := api.Tree{leaf(1), {}, leaf(2)}
	for i, n := range wrongLeaves() {
		if out, at, err := tree.Add(x, n); !errors.Is(err, api.ErrForm) || out != nil || at != 0 {
			t.Error("add", i, err)
		}
	}
	full := api.Tree{leaf(0)}
	for name := 1; name < 32; name++ {
		next, i, err := tree.Add(full, leaf(name))
		if err != nil || i != name {
			t.Fatal("add", name, err)
		}
		full = next
	}
	good(t, full)
	if out, i, err := tree.Add(full, leaf(32)); !errors.Is(err, api.ErrFull) || out != nil || i != 0 {
		t.Error("one too many", err)
	}
	if _, _, err := tree.Add(full, leaf(5)); !errors.Is(err, api.ErrMember) {
		t.Error("a name that is there comes first", err)
	}
	if _, _, err := tree.Add(full, api.Node{}); !errors.Is(err, api.ErrForm) {
		t.Error("the form comes first", err)
	}
	less, err := tree.Remove(full, 9)
	if err != nil {
		t.Fatal(err)
	}
	if _, i, err := tree.Add(less, leaf(32)); err != nil || i != 9 {
		t.Error("the first that is free", i, err)
	}
	if _, i, err := tree.Add(x, api.Node{Used: true, Name: 3, Unmerged: []int{}}); err != nil || i != 2 {
		t.Error("an empty list", err)
	}
}

func TestUpdate(t *testing.T) {
	s := sourceOf(5)
	for n := range 300 {
		x := s.tree(n % 100)
		kept, i := tree.Copy(x), s.some(x)
		name := x[2*i].Name
		if s.Intn(3) == 0 {
			name = s.Intn(256)
		}
		next := leaf(name)
		next.Key = api.Key{1, 2, 3}
		out, err := tree.Update(x, i, next)
		if at := tree.Find(x, name); at >= 0 && at != i {
			if !errors.Is(err, api.ErrMember) || out != nil {
				t.Fatal("another one's name", err)
			}
			continue
		}
		want := blanked(x, i)
		want[2*i] = next
		if err != nil || !tree.Same(out, want) {
			t.Fatal("update", i, err)
		}
		good(t, out)
		unchanged(t, x, kept, out)
	}
}

func TestUpdateErrors(t *testing.T) {
	x := api.Tree{leaf(1), {}, {}, {}, leaf(2), {}, {}}
	for i, n := range wrongLeaves() {
		for _, at := range []int{0, 1, -1} {
			if out, err := tree.Update(x, at, n); !errors.Is(err, api.ErrForm) || out != nil {
				t.Error("update", i, err)
			}
		}
	}
	for _, i := range []int{-1, 1, 3, 4, 7, math.MinInt, math.MaxInt, 1 << 62, 1 << 63 >> 1} {
		if out, err := tree.Update(x, i, leaf(9)); !errors.Is(err, api.ErrMember) || out != nil {
			t.Error("no used leaf", i, err)
		}
		if out, err := tree.Remove(x, i); !errors.Is(err, api.ErrMember) || out != nil {
			t.Error("remove no used leaf", i, err)
		}
	}
	for i, name := range map[int]int{0: 2, 2: 1} {
		if out, err := tree.Update(x, i, leaf(name)); !errors.Is(err, api.ErrMember) || out != nil {
			t.Error("another one's name", i, err)
		}
	}
	if _, err := tree.Update(x, 0, leaf(1)); err != nil {
		t.Error("its own name", err)
	}
}

func TestRemove(t *testing.T) {
	s := sourceOf(6)
	for n := range 400 {
		x := s.tree(n % 100)
		kept, i := tree.Copy(x), s.some(x)
		many := 0
		for range tree.Members(x) {
			many++
		}
		out, err := tree.Remove(x, i)
		if many == 1 {
			if !errors.Is(err, api.ErrMember) || out != nil {
				t.Fatal("the only one", err)
			}
			continue
		}
		if err != nil || !tree.Same(out, removed(x, i)) {
			t.Fatal("remove", i, err)
		}
		if cap(out) > len(out) && len(out) < len(kept) {
			t.Fatal("what was cut off leaves capacity")
		}
		good(t, out)
		unchanged(t, x, kept, out)
	}
}

func TestExample(t *testing.T) {
	x := api.Tree{leaf(0)}
	for name := 1; name < 4; name++ {
		x, _, _ = tree.Add(x, leaf(name))
	}
	if len(x) != 7 {
		t.Fatal("four leaves", len(x))
	}
	x, err := tree.Remove(x, 3)
	if err != nil || len(x) != 7 {
		t.Fatal("three leaves of four", len(x), err)
	}
	x, err = tree.Remove(x, 2)
	if err != nil || len(x) != 3 {
		t.Fatal("two leaves", len(x), err)
	}
	x, err = tree.Remove(x, 0)
	if err != nil || len(x) != 3 {
		t.Fatal("the second of two", len(x), err)
	}
	if out, err := tree.Remove(x, 1); !errors.Is(err, api.ErrMember) || out != nil {
		t.Error("the only one", err)
	}
}

func TestCutDownManyTimes(t *testing.T) {
	x := api.Tree{leaf(0)}
	for name := 1; name < 17; name++ {
		x, _, _ = tree.Add(x, leaf(name))
	}
	for i := 1; i < 16; i++ {
		x, _ = tree.Remove(x, i)
	}
	if len(x) != 63 {
		t.Fatal("the right half is used", len(x))
	}
	x, err := tree.Remove(x, 16)
	if err != nil || len(x) != 1 || x[0].Name != 0 {
		t.Error("down to one", len(x), err)
	}
}
