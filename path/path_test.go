package path_test

import (
	"bytes"
	"errors"
	"maps"
	"math"
	"math/rand"
	"slices"
	"testing"

	"burrow/api"
	"burrow/box"
	"burrow/kdf"
	"burrow/ladder"
	"burrow/mark"
	"burrow/path"
	"burrow/seat"
	"burrow/tree"
)

type source struct{ *rand.Rand }

func sourceOf(seed int64) source { return source{rand.New(rand.NewSource(seed))} }

func (s source) key() (k api.Key) {
	s.Read(k[:])
	return k
}

func (s source) keys(many int) []api.Key {
	out := make([]api.Key, many)
	for i := range out {
		out[i] = s.key()
	}
	return out
}

// group is a tree, and which secret keys the member of each leaf knows, by node.
type group struct {
	t     api.Tree
	known map[int]map[int]api.Key
}

// start is a group of one.
func (s source) start() *group {
	secret := s.key()
	n := api.Node{Used: true, Name: s.Intn(256), Key: ladder.Public(secret), Sign: s.key()}
	return &group{api.Tree{n}, map[int]map[int]api.Key{0: {0: secret}}}
}

func (g *group) leaves() []int {
	return slices.Sorted(maps.Keys(g.known))
}

func (s source) some(g *group) int {
	list := g.leaves()
	return list[s.Intn(len(list))]
}

// add adds a member, who knows the key of its leaf alone.
func (s source) add(g *group) {
	secret := s.key()
	t, i, err := tree.Add(g.t, api.Node{Used: true, Name: s.Intn(256), Key: ladder.Public(secret), Sign: s.key()})
	if err == nil {
		g.t = t
		g.known[i] = map[int]api.Key{2 * i: secret}
	}
}

// drop lets each member forget what isn't used, or cut off.
func (g *group) drop() {
	for _, keys := range g.known {
		for n := range keys {
			if n >= len(g.t) || !g.t[n].Used {
				delete(keys, n)
			}
		}
	}
}

func (s source) remove(g *group) {
	i := s.some(g)
	if t, err := tree.Remove(g.t, i); err == nil {
		g.t = t
		delete(g.known, i)
		g.drop()
	}
}

// renew is a path of one, that the others learn.
func (s source) renew(t *testing.T, g *group) {
	t.Helper()
	i := s.some(g)
	p, err := path.New(g.t, i, s.key(), s.key())
	if err != nil {
		t.Fatal(err)
	}
	need, _ := path.Need(g.t, i)
	x, err := p.Path(i, []byte("info"), s.keys(need))
	if err != nil {
		t.Fatal(err)
	}
	for own, keys := range g.known {
		if own != i {
			l, err := path.Learn(g.t, i, x, own, keys, []byte("info"))
			if err != nil || l.Commit != p.Commit || !tree.Same(l.Nodes, p.Nodes) {
				t.Fatal("learn", i, own, err)
			}
			g.known[own] = l.Keys
		}
	}
	mine := map[int]api.Key{2 * i: p.Leaf.Secret}
	for k, w := range p.Ways {
		mine[w] = path.NodeKey(p.Secrets[k])
	}
	g.known[i] = mine
	g.t = p.Nodes
}

// group is a group after some changes.
func (s source) group(t *testing.T, changes int) *group {
	t.Helper()
	g := s.start()
	for range changes {
		switch s.Intn(5) {
		case 0, 1, 2:
			s.add(g)
		case 3:
			s.remove(g)
		case 4:
			s.renew(t, g)
		}
	}
	return g
}

// check checks that members know nothing but secret keys of nodes above them, and that the tree is bound.
func (g *group) check(t *testing.T) {
	t.Helper()
	if !mark.Bound(g.t) {
		t.Fatal("not bound")
	}
	for i, keys := range g.known {
		for n, k := range keys {
			if first, last := seat.Below(n, seat.Leaves(len(g.t))); i < first || i > last || ladder.Public(k) != g.t[n].Key {
				t.Fatal("a key that isn't the node's", i, n)
			}
		}
	}
}

// wayOf is the way by the definition, and its other sides.
func wayOf(t api.Tree, i int) (ways, others []int) {
	many := seat.Leaves(len(t))
	below := 2 * i
	for x := range seat.Path(2*i, many) {
		other := seat.Sibling(below, many)
		if len(tree.Resolution(t, other)) > 0 {
			ways, others = append(ways, x), append(others, other)
		}
		below = x
	}
	return ways, others
}

// resolved is the resolution of a node without some leaves.
func resolved(t api.Tree, x int, without []int) []int {
	return slices.DeleteFunc(tree.Resolution(t, x), func(n int) bool { return n%2 == 0 && slices.Contains(without, n/2) })
}

// planned is a plan by the definition.
func planned(t api.Tree, i int, leaf, secret api.Key) path.Plan {
	ways, _ := wayOf(t, i)
	many := seat.Leaves(len(t))
	p := path.Plan{Nodes: tree.Copy(t), Leaf: ladder.New(leaf), Ways: ways}
	for x := range seat.Path(2*i, many) {
		p.Nodes[x] = api.Node{}
	}
	last := api.Sum(secret)
	for k, x := range ways {
		if k > 0 {
			last = kdf.Derive(last, "path")
		}
		p.Secrets = append(p.Secrets, last)
		p.Nodes[x] = api.Node{Used: true, Key: ladder.Public(api.Key(kdf.Derive(last, "node")))}
	}
	p.Commit = kdf.Derive(last, "path")
	p.Nodes[2*i].Key, p.Nodes[2*i].Parent = p.Leaf.Public, api.Sum{}
	chain := append([]int{2 * i}, ways...)
	for k := len(chain) - 2; k >= 0; k-- {
		up := chain[k+1]
		child, right := seat.Children(up)
		if first, last := seat.Below(right, many); first <= i && i <= last {
			child = right
		}
		p.Nodes[chain[k]].Parent, _ = mark.Mark(p.Nodes, up, child)
	}
	return p
}

func same(a, b path.Plan) bool {
	return tree.Same(a.Nodes, b.Nodes) && a.Leaf == b.Leaf && slices.Equal(a.Ways, b.Ways) && slices.Equal(a.Secrets, b.Secrets) && a.Commit == b.Commit
}

func TestNodeKey(t *testing.T) {
	s := sourceOf(1)
	for range 10 {
		secret := api.Sum(s.key())
		if path.NodeKey(secret) != api.Key(kdf.Derive(secret, "node")) {
			t.Error("node key")
		}
	}
}

func TestPlans(t *testing.T) {
	s := sourceOf(2)
	for n := range 40 {
		g := s.group(t, n)
		g.check(t)
		for _, i := range g.leaves() {
			ways, _ := wayOf(g.t, i)
			if got, err := path.Way(g.t, i); err != nil || !slices.Equal(got, ways) {
				t.Fatal("way", i, got, err)
			}
			if s.Intn(5) > 0 {
				continue
			}
			kept, leaf, secret := tree.Copy(g.t), s.key(), s.key()
			p, err := path.New(g.t, i, leaf, secret)
			if err != nil || !same(p, planned(g.t, i, leaf, secret)) {
				t.Fatal("plan", i, err)
			}
			if !tree.Same(g.t, kept) {
				t.Fatal("the tree was changed")
			}
			if tree.Check(p.Nodes) != nil || !mark.Bound(p.Nodes) {
				t.Fatal("the new tree isn't bound")
			}
		}
	}
}

func TestOneLeaf(t *testing.T) {
	s := sourceOf(3)
	g, secret := s.start(), s.key()
	ways, err := path.Way(g.t, 0)
	if err != nil || len(ways) != 0 {
		t.Error("way", err)
	}
	p, err := path.New(g.t, 0, s.key(), secret)
	if err != nil || len(p.Ways) != 0 || len(p.Secrets) != 0 || p.Commit != kdf.Derive(api.Sum(secret), "path") || p.Nodes[0].Parent != (api.Sum{}) {
		t.Error("plan", err)
	}
	if n, err := path.Need(g.t, 0); err != nil || n != 0 {
		t.Error("need", n, err)
	}
	x, err := p.Path(0, nil, nil)
	if err != nil || len(x.Steps) != 0 || x.Leaf.Key != p.Leaf.Public {
		t.Error("path", err)
	}
	if out, err := path.Put(g.t, 0, x); err != nil || !tree.Same(out, p.Nodes) {
		t.Error("put", err)
	}
	if _, _, err := path.From(p.Nodes, 0, 0, api.Sum{}, true); !errors.Is(err, api.ErrMember) {
		t.Error("from", err)
	}
}

// without are some leaves, and numbers of none.
func (s source) without(g *group, i int) []int {
	var out []int
	for _, x := range g.leaves() {
		if x != i && s.Intn(4) == 0 {
			out = append(out, x)
		}
	}
	if s.Intn(3) == 0 {
		out = append(out, 40, -1, math.MaxInt)
	}
	return out
}

func TestPaths(t *testing.T) {
	s := sourceOf(4)
	for n := range 40 {
		g := s.group(t, n)
		i := s.some(g)
		without := s.without(g, i)
		p, err := path.New(g.t, i, s.key(), s.key())
		if err != nil {
			t.Fatal(err)
		}
		draws, info := s.keys(70), s.key()
		ways, others := wayOf(g.t, i)
		x, err := p.Path(i, info[:], draws, without...)
		if err != nil || len(x.Steps) != len(ways) {
			t.Fatal("path", err)
		}
		leaf := p.Nodes[2*i]
		if !x.Leaf.Used || x.Leaf.Name != leaf.Name || x.Leaf.Sign != leaf.Sign || x.Leaf.Key != leaf.Key || x.Leaf.Parent != leaf.Parent || len(x.Leaf.Unmerged) > 0 {
			t.Fatal("leaf")
		}
		at := 0
		for k, step := range x.Steps {
			if step.Key != p.Nodes[ways[k]].Key {
				t.Fatal("key", k)
			}
			for j, to := range resolved(g.t, others[k], without) {
				want, _ := box.Seal(g.t[to].Key, draws[at], info[:], p.Secrets[k][:])
				if j >= len(step.Sealed) || !bytes.Equal(step.Sealed[j], want) {
					t.Fatal("sealed", k, j)
				}
				at++
			}
			if len(step.Sealed) != len(resolved(g.t, others[k], without)) {
				t.Fatal("too many", k)
			}
		}
		if need, err := path.Need(g.t, i, without...); err != nil || need != at {
			t.Fatal("need", need, at, err)
		}
		if y, err := p.Path(i, info[:], draws[:at], without...); err != nil || !samePath(x, y) {
			t.Fatal("just enough draws", err)
		}
		if at > 0 {
			if y, err := p.Path(i, info[:], draws[:at-1], without...); !errors.Is(err, api.ErrRange) || !samePath(y, api.Path{}) {
				t.Fatal("too few draws", err)
			}
			if y, err := p.Path(i, make([]byte, 1<<16+1), draws, without...); !errors.Is(err, api.ErrLen) || !samePath(y, api.Path{}) {
				t.Fatal("long info", err)
			}
		}
		if out, err := path.Put(g.t, i, x); err != nil || !tree.Same(out, p.Nodes) {
			t.Fatal("put", err)
		}
	}
}

func samePath(a, b api.Path) bool {
	return tree.Same(api.Tree{a.Leaf}, api.Tree{b.Leaf}) && slices.EqualFunc(a.Steps, b.Steps, func(a, b api.Step) bool {
		return a.Key == b.Key && slices.EqualFunc(a.Sealed, b.Sealed, bytes.Equal)
	})
}

// wrong are trees and leaves that are refused, and how.
func wrong(g *group) []struct {
	t    api.Tree
	i    int
	want error
} {
	type row = struct {
		t    api.Tree
		i    int
		want error
	}
	var out []row
	for _, i := range []int{0, -1, 1, 99} {
		out = append(out, row{nil, i, api.ErrForm}, row{g.t[:len(g.t)-1], i, api.ErrForm}, row{make(api.Tree, 3), i, api.ErrForm})
	}
	for _, i := range []int{-1, seat.Leaves(len(g.t)), 32, math.MinInt, math.MaxInt, 1 << 62} {
		out = append(out, row{g.t, i, api.ErrMember})
	}
	for i := range seat.Leaves(len(g.t)) {
		if !g.t[2*i].Used {
			out = append(out, row{g.t, i, api.ErrMember})
		}
	}
	return out
}

func TestWrongTreesAndLeaves(t *testing.T) {
	s := sourceOf(5)
	for n := range 12 {
		g := s.group(t, 3*n)
		for _, x := range wrong(g) {
			if got, err := path.Way(x.t, x.i); !errors.Is(err, x.want) || got != nil {
				t.Error("way", x.i, err)
			}
			if got, err := path.Need(x.t, x.i); !errors.Is(err, x.want) || got != 0 {
				t.Error("need", x.i, err)
			}
			if got, err := path.New(x.t, x.i, s.key(), s.key()); !errors.Is(err, x.want) || !same(got, path.Plan{}) {
				t.Error("new", x.i, err)
			}
			if got, err := path.Put(x.t, x.i, api.Path{}); !errors.Is(err, x.want) || got != nil {
				t.Error("put", x.i, err)
			}
			if got, err := path.Learn(x.t, x.i, api.Path{}, -1, nil, nil); !errors.Is(err, x.want) || got.Nodes != nil || got.Keys != nil {
				t.Error("learn", x.i, err)
			}
			if keys, commit, err := path.From(x.t, x.i, -1, api.Sum{}, true); !errors.Is(err, x.want) || keys != nil || commit != (api.Sum{}) {
				t.Error("from", x.i, err)
			}
		}
	}
}

// TestOddPlans: a plan that New didn't make is refused, or yields anything, but never panics.
func TestOddPlans(t *testing.T) {
	s := sourceOf(6)
	g := s.group(t, 40)
	i := s.some(g)
	good, _ := path.New(g.t, i, s.key(), s.key())
	for _, p := range []path.Plan{
		{}, {Nodes: good.Nodes}, {Nodes: good.Nodes, Ways: good.Ways}, {Ways: good.Ways, Secrets: good.Secrets},
		{Nodes: good.Nodes, Ways: good.Ways, Secrets: good.Secrets[1:]}, {Nodes: good.Nodes, Ways: good.Ways[1:], Secrets: good.Secrets},
		{Nodes: good.Nodes[:1], Ways: good.Ways, Secrets: good.Secrets}, {Nodes: good.Nodes, Ways: []int{-1, 900, 3}, Secrets: good.Secrets},
	} {
		for _, at := range []int{i, 0, -1, 99} {
			p.Path(at, nil, s.keys(70))
			p.Path(at, nil, nil, 1, 2, -3)
		}
	}
	for _, at := range []int{-1, 31, 32, math.MaxInt} {
		if x, err := good.Path(at, nil, s.keys(70)); err == nil && at != i && len(x.Steps) != len(good.Ways) {
			t.Error("another leaf", at)
		}
	}
}

func TestKeysOfNoUse(t *testing.T) {
	s := sourceOf(7)
	g := s.start()
	s.add(g)
	p, _ := path.New(g.t, 0, s.key(), s.key())
	p.Nodes[2].Key = api.Key{}
	if x, err := p.Path(0, nil, s.keys(5)); !errors.Is(err, api.ErrRange) || !samePath(x, api.Path{}) {
		t.Error("a key whose results are 0", err)
	}
}

func TestPutErrors(t *testing.T) {
	s := sourceOf(8)
	for range 30 {
		g := s.group(t, 20)
		if len(g.known) < 2 {
			continue
		}
		i := s.some(g)
		p, _ := path.New(g.t, i, s.key(), s.key())
		x, err := p.Path(i, nil, s.keys(70))
		if err != nil {
			t.Fatal(err)
		}
		refuse := func(what string, want error, change func(y *api.Path)) {
			t.Helper()
			y := x
			y.Steps = slices.Clone(x.Steps)
			change(&y)
			if out, err := path.Put(g.t, i, y); !errors.Is(err, want) || out != nil {
				t.Error(what, err)
			}
			if out, err := path.Learn(g.t, i, y, i, nil, nil); !errors.Is(err, want) || out.Nodes != nil {
				t.Error("learn", what, err)
			}
		}
		refuse("not used", api.ErrForm, func(y *api.Path) { y.Leaf.Used = false })
		refuse("name", api.ErrForm, func(y *api.Path) { y.Leaf.Name++ })
		refuse("sign", api.ErrForm, func(y *api.Path) { y.Leaf.Sign[31]++ })
		refuse("unmerged", api.ErrForm, func(y *api.Path) { y.Leaf.Unmerged = []int{i} })
		refuse("fewer steps", api.ErrForm, func(y *api.Path) { y.Steps = y.Steps[1:] })
		refuse("no steps", api.ErrForm, func(y *api.Path) { y.Steps = nil })
		refuse("more steps", api.ErrForm, func(y *api.Path) { y.Steps = append(y.Steps, y.Steps[0]) })
		refuse("form first", api.ErrForm, func(y *api.Path) { y.Leaf.Parent[0]++; y.Steps = nil })
		refuse("parent", api.ErrAuth, func(y *api.Path) { y.Leaf.Parent[s.Intn(32)]++ })
		refuse("zero parent", api.ErrAuth, func(y *api.Path) { y.Leaf.Parent = api.Sum{} })
		for k := range x.Steps {
			refuse("key", api.ErrAuth, func(y *api.Path) { y.Steps[k].Key[s.Intn(32)]++ })
		}
		y := x
		y.Leaf.Key = s.key()
		if _, err := path.Put(g.t, i, y); err != nil {
			t.Error("another leaf key", err)
		}
		y = x
		y.Leaf.Unmerged = []int{}
		if _, err := path.Put(g.t, i, y); err != nil {
			t.Error("an empty list", err)
		}
	}
}

func TestArgumentsStay(t *testing.T) {
	s := sourceOf(9)
	g := s.group(t, 45)
	i := s.some(g)
	kept := tree.Copy(g.t)
	p, _ := path.New(g.t, i, s.key(), s.key())
	keptPlan := tree.Copy(p.Nodes)
	info, draws := make([]byte, 50, 90), s.keys(70)
	keptDraws := slices.Clone(draws)
	x, _ := p.Path(i, info, draws[:69:70])
	out, err := path.Put(g.t, i, x)
	if err != nil {
		t.Fatal(err)
	}
	for own, keys := range g.known {
		if own == i {
			continue
		}
		keptKeys := maps.Clone(keys)
		l, err := path.Learn(g.t, i, x, own, keys, info)
		if err != nil || !maps.Equal(keys, keptKeys) {
			t.Fatal("learn", err)
		}
		l.Keys[99] = api.Key{}
		l.Nodes[0].Name = 77
		if !maps.Equal(keys, keptKeys) {
			t.Fatal("keys are shared")
		}
		path.From(p.Nodes, i, own, p.Secrets[0], true)
	}
	if !tree.Same(g.t, kept) || !tree.Same(p.Nodes, keptPlan) || !slices.Equal(draws, keptDraws) || !bytes.Equal(info[:90], make([]byte, 90)) {
		t.Error("an argument was changed")
	}
	for n := range out {
		out[n] = api.Node{}
	}
	for n := range g.t {
		for k := range g.t[n].Unmerged {
			g.t[n].Unmerged[k] = 77
		}
		g.t[n] = api.Node{}
	}
	if !tree.Same(p.Nodes, keptPlan) {
		t.Error("the plan shares with the tree")
	}
}

// parentOf is the mark of a node for its child above a leaf.
func parentOf(t api.Tree, x, i int) api.Sum {
	l, r := seat.Children(x)
	if first, last := seat.Below(r, seat.Leaves(len(t))); first <= i && i <= last {
		l = r
	}
	sum, _ := mark.Mark(t, x, l)
	return sum
}
