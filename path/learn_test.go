package path_test

import (
	"errors"
	"maps"
	"math"
	"slices"
	"testing"

	"burrow/api"
	"burrow/box"
	"burrow/kdf"
	"burrow/ladder"
	"burrow/path"
	"burrow/seat"
	"burrow/tree"
)

// turn is a path of a leaf in a group, some of whose leaves are new.
type turn struct {
	g       *group
	i       int
	without []int
	p       path.Plan
	x       api.Path
	info    []byte
}

// turn takes a group, and adds a few who learn nothing yet.
func (s source) turn(t *testing.T, changes, more int) turn {
	t.Helper()
	g := s.group(t, changes)
	before := g.leaves()
	for range more {
		s.add(g)
	}
	x := turn{g: g, i: before[s.Intn(len(before))], info: []byte("of the turn")}
	for _, i := range g.leaves() {
		if !slices.Contains(before, i) {
			x.without = append(x.without, i)
		}
	}
	var err error
	if x.p, err = path.New(g.t, x.i, s.key(), s.key()); err != nil {
		t.Fatal(err)
	}
	if x.x, err = x.p.Path(x.i, x.info, s.keys(70), x.without...); err != nil {
		t.Fatal(err)
	}
	return x
}

// lowest is the place of the lowest node of the way above a leaf.
func (x turn) lowest(own int) int {
	for k, w := range x.p.Ways {
		if first, last := seat.Below(w, seat.Leaves(len(x.g.t))); first <= own && own <= last {
			return k
		}
	}
	return -1
}

// expected is what a member knows after the turn.
func (x turn) expected(own int, keys map[int]api.Key) map[int]api.Key {
	out := map[int]api.Key{}
	for n, k := range keys {
		if n >= 0 && n < len(x.g.t) && x.g.t[n].Used && x.p.Nodes[n].Used && x.g.t[n].Key == x.p.Nodes[n].Key {
			out[n] = k
		}
	}
	for k := x.lowest(own); k < len(x.p.Ways); k++ {
		out[x.p.Ways[k]] = path.NodeKey(x.p.Secrets[k])
	}
	return out
}

func (x turn) learn(own int, keys map[int]api.Key) (path.Learnt, error) {
	return path.Learn(x.g.t, x.i, x.x, own, keys, x.info, x.without...)
}

// not checks that nothing is learnt.
func not(t *testing.T, what string, want error, got path.Learnt, err error) {
	t.Helper()
	if !errors.Is(err, want) || got.Nodes != nil || got.Keys != nil || got.Commit != (api.Sum{}) {
		t.Error(what, err)
	}
}

func TestAllLearn(t *testing.T) {
	s := sourceOf(20)
	for n := range 30 {
		x := s.turn(t, n, n%4)
		for _, own := range x.g.leaves() {
			keys := x.g.known[own]
			got, err := x.learn(own, keys)
			if own == x.i {
				not(t, "its own path", api.ErrMember, got, err)
				continue
			}
			if slices.Contains(x.without, own) {
				not(t, "who is new", api.ErrState, got, err)
				continue
			}
			if err != nil || got.Commit != x.p.Commit || !tree.Same(got.Nodes, x.p.Nodes) || !maps.Equal(got.Keys, x.expected(own, keys)) {
				t.Fatal("learn", own, err)
			}
			more := maps.Clone(keys)
			for _, n := range []int{-1, len(x.g.t), 64, 1000, math.MinInt, math.MaxInt} {
				more[n] = s.key()
			}
			if got, err := x.learn(own, more); err != nil || !maps.Equal(got.Keys, x.expected(own, keys)) {
				t.Fatal("keys of no node", err)
			}
		}
	}
}

// TestOneKeyIsEnough: a member that knows one of the keys learns as much.
func TestOneKeyIsEnough(t *testing.T) {
	s := sourceOf(21)
	for n := range 20 {
		x := s.turn(t, 10+n, 0)
		for _, own := range x.g.leaves() {
			if own == x.i {
				continue
			}
			_, others := wayOf(x.g.t, x.i)
			to := resolved(x.g.t, others[x.lowest(own)], nil)
			for node, key := range x.g.known[own] {
				one := map[int]api.Key{node: key}
				got, err := x.learn(own, one)
				if !slices.Contains(to, node) {
					not(t, "a key that no text is for", api.ErrState, got, err)
				} else if err != nil || got.Commit != x.p.Commit || !maps.Equal(got.Keys, x.expected(own, one)) {
					t.Fatal("one key", own, node, err)
				}
			}
			got, err := x.learn(own, nil)
			not(t, "no key", api.ErrState, got, err)
		}
	}
}

func TestFirstKnownKeyCounts(t *testing.T) {
	s := sourceOf(22)
	g := s.start()
	for range 7 {
		s.add(g)
	}
	p, _ := path.New(g.t, 0, s.key(), s.key())
	x, _ := p.Path(0, nil, s.keys(70))
	keys := map[int]api.Key{10: g.known[5][10], 8: s.key()} // a wrong one in front of a right one
	got, err := path.Learn(g.t, 0, x, 5, keys, nil)
	not(t, "the first one is wrong", api.ErrAuth, got, err)
	keys = map[int]api.Key{10: g.known[5][10], 12: s.key(), 4: s.key()}
	if got, err := path.Learn(g.t, 0, x, 5, keys, nil); err != nil || got.Commit != p.Commit {
		t.Error("the first one is right", err)
	}
}

func TestLearnErrors(t *testing.T) {
	s := sourceOf(23)
	for range 20 {
		x := s.turn(t, 25, 1)
		own := s.some(x.g)
		if own == x.i || slices.Contains(x.without, own) {
			continue
		}
		keys, k := x.g.known[own], x.lowest(own)
		for _, n := range []int{-1, 32, math.MinInt, math.MaxInt, x.i} {
			got, err := path.Learn(x.g.t, x.i, x.x, n, keys, x.info, x.without...)
			not(t, "no other leaf", api.ErrMember, got, err)
		}
		for n := range seat.Leaves(len(x.g.t)) {
			if !x.g.t[2*n].Used {
				got, err := path.Learn(x.g.t, x.i, x.x, n, keys, x.info, x.without...)
				not(t, "a leaf that isn't used", api.ErrMember, got, err)
			}
		}
		with := func(step int, sealed [][]byte) api.Path {
			y := x.x
			y.Steps = slices.Clone(y.Steps)
			y.Steps[step].Sealed = sealed
			return y
		}
		try := func(what string, want error, y api.Path, keys map[int]api.Key, info []byte) {
			t.Helper()
			got, err := path.Learn(x.g.t, x.i, y, own, keys, info, x.without...)
			not(t, what, want, got, err)
		}
		for step := range x.x.Steps {
			sealed := x.x.Steps[step].Sealed
			try("one more text", api.ErrForm, with(step, append(slices.Clone(sealed), []byte{1})), keys, x.info)
			if len(sealed) > 0 {
				try("one text less", api.ErrForm, with(step, sealed[1:]), keys, x.info)
			}
			try("form before state", api.ErrForm, with(step, append(slices.Clone(sealed), nil)), nil, x.info)
		}
		many := len(x.x.Steps[k].Sealed)
		all := func(b []byte) [][]byte { return slices.Repeat([][]byte{b}, many) }
		try("no text", api.ErrLen, with(k, all(nil)), keys, x.info)
		try("zeros", api.ErrRange, with(k, all(make([]byte, 80))), keys, x.info)
		try("another info", api.ErrAuth, x.x, keys, []byte("of another"))
		try("long info", api.ErrLen, x.x, keys, make([]byte, 1<<16+1))
		_, others := wayOf(x.g.t, x.i)
		to := resolved(x.g.t, others[k], x.without)
		boxed := func(secret []byte) [][]byte {
			var out [][]byte
			for _, n := range to {
				b, err := box.Seal(x.g.t[n].Key, s.key(), x.info, secret)
				if err != nil {
					t.Fatal(err)
				}
				out = append(out, b)
			}
			return out
		}
		for _, n := range []int{0, 31, 33, 64} {
			try("not 32 bytes", api.ErrLen, with(k, boxed(make([]byte, n))), keys, x.info)
		}
		try("another secret", api.ErrAuth, with(k, boxed(make([]byte, 32))), keys, x.info)
		if got, err := path.Learn(x.g.t, x.i, with(k, boxed(x.p.Secrets[k][:])), own, keys, x.info, x.without...); err != nil || got.Commit != x.p.Commit {
			t.Error("boxed anew", err)
		}
		wrong := map[int]api.Key{}
		for n := range keys {
			wrong[n] = s.key()
		}
		try("wrong keys", api.ErrAuth, x.x, wrong, x.info)
		if len(to) > 0 && len(x.without) > 0 {
			got, err := path.Learn(x.g.t, x.i, x.x, own, keys, x.info)
			if err == nil {
				t.Error("new leaves count", got.Commit)
			}
		}
	}
}

// TestBadKeysAbove: a step whose key doesn't belong to the secret is found, on each level.
func TestBadKeysAbove(t *testing.T) {
	s := sourceOf(24)
	g := s.start()
	for range 15 {
		s.add(g)
	}
	i, own := 3, 2
	honest, _ := path.New(g.t, i, s.key(), s.key())
	for bad := range honest.Ways {
		keys := make([]api.Key, len(honest.Ways))
		for k, w := range honest.Ways {
			keys[k] = honest.Nodes[w].Key
		}
		keys[bad] = ladder.Public(s.key())
		x, info := forge(t, s, g.t, i, honest, keys)
		if _, err := path.Put(g.t, i, x); err != nil {
			t.Fatal("the marks are right", err)
		}
		got, err := path.Learn(g.t, i, x, own, g.known[own], info)
		not(t, "a key of another secret", api.ErrAuth, got, err)
		low := 12 // the lowest node of the way above this leaf is the third one
		got, err = path.Learn(g.t, i, x, low, g.known[low], info)
		if k := (turn{g: g, p: honest}).lowest(low); bad >= k {
			not(t, "a key of another secret", api.ErrAuth, got, err)
		} else if err != nil || got.Commit != honest.Commit {
			t.Error("a key below what it learns", err)
		}
	}
}

// forge is a path with other keys than the secrets', whose marks are right.
func forge(t *testing.T, s source, nodes api.Tree, i int, p path.Plan, keys []api.Key) (api.Path, []byte) {
	t.Helper()
	x, err := p.Path(i, []byte("x"), s.keys(70))
	if err != nil {
		t.Fatal(err)
	}
	for k := range x.Steps {
		x.Steps[k].Key = keys[k]
	}
	x.Leaf.Parent = api.Sum{}
	chain := append([]int{2 * i}, p.Ways...)
	other := tree.Copy(p.Nodes)
	for k, w := range p.Ways {
		other[w] = api.Node{Used: true, Key: keys[k]}
	}
	for k := len(chain) - 2; k >= 0; k-- {
		other[chain[k]].Parent = parentOf(other, chain[k+1], i)
	}
	x.Leaf.Parent = other[2*i].Parent
	return x, []byte("x")
}

func TestFrom(t *testing.T) {
	s := sourceOf(25)
	for n := range 25 {
		x := s.turn(t, n, n%3)
		for _, own := range x.g.leaves() {
			if own == x.i {
				if keys, commit, err := path.From(x.p.Nodes, x.i, own, x.p.Commit, true); !errors.Is(err, api.ErrMember) || keys != nil || commit != (api.Sum{}) {
					t.Error("itself", err)
				}
				continue
			}
			k := x.lowest(own)
			want := x.expected(own, nil)
			keys, commit, err := path.From(x.p.Nodes, x.i, own, x.p.Secrets[k], true)
			if err != nil || commit != x.p.Commit || !maps.Equal(keys, want) {
				t.Fatal("from", own, err)
			}
			keys, commit, err = path.From(x.p.Nodes, x.i, own, x.p.Secrets[k], false)
			if err != nil || commit != (api.Sum{}) || !maps.Equal(keys, want) {
				t.Fatal("from, without the commit secret", own, err)
			}
			for _, secret := range []api.Sum{{}, x.p.Commit, kdf.Derive(x.p.Secrets[k], "node")} {
				if keys, commit, err := path.From(x.p.Nodes, x.i, own, secret, true); !errors.Is(err, api.ErrAuth) || keys != nil || commit != (api.Sum{}) {
					t.Fatal("another secret", err)
				}
			}
			for j := k; j < len(x.p.Ways); j++ {
				bad := tree.Copy(x.p.Nodes)
				bad[x.p.Ways[j]].Key[7]++
				if keys, _, err := path.From(bad, x.i, own, x.p.Secrets[k], false); !errors.Is(err, api.ErrAuth) || keys != nil {
					t.Fatal("another key", err)
				}
			}
		}
		for _, own := range []int{-1, 32, math.MinInt, math.MaxInt} {
			if keys, commit, err := path.From(x.p.Nodes, x.i, own, api.Sum{}, true); !errors.Is(err, api.ErrMember) || keys != nil || commit != (api.Sum{}) {
				t.Error("no leaf", own, err)
			}
		}
	}
}

// TestWhoIsRemoved: all keys that a member knew open nothing of a path after its removal.
func TestWhoIsRemoved(t *testing.T) {
	s := sourceOf(26)
	tried := 0
	for n := range 12 {
		g := s.group(t, 20+n)
		if len(g.known) < 3 {
			continue
		}
		gone := s.some(g)
		keys := maps.Clone(g.known[gone])
		g.t, _ = tree.Remove(g.t, gone)
		delete(g.known, gone)
		g.drop()
		i := s.some(g)
		p, _ := path.New(g.t, i, s.key(), s.key())
		x, _ := p.Path(i, nil, s.keys(70))
		for _, step := range x.Steps {
			for _, sealed := range step.Sealed {
				for node, key := range keys {
					for _, public := range []api.Key{ladder.Public(key), g.t[node%len(g.t)].Key} {
						tried++
						if _, err := box.Open(api.Pair{Secret: key, Public: public}, nil, sealed); err == nil {
							t.Fatal("opened", node)
						}
					}
				}
			}
		}
	}
	if tried < 100 {
		t.Error("too few were tried", tried)
	}
}
