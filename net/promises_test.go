package net_test

import (
	"bytes"
	"errors"
	"math/rand"
	"slices"
	"testing"

	"burrow/api"
	"burrow/box"
	"burrow/ladder"
	"burrow/member"
	"burrow/net"
	"burrow/path"
	"burrow/tree"
)

// do performs a pick without an error.
func do(t *testing.T, n *net.Net, p api.Pick) []net.Given {
	t.Helper()
	given, err := n.Do(p)
	if err != nil {
		t.Fatal("pick", p.Kind, p.Command.Kind, err)
	}
	return given
}

func send(k int, text string) api.Pick {
	p := command(k, api.DoSend, 0)
	p.Command.Payload = []byte(text)
	return p
}

// together is a net whose nodes are linked, and in one group in epoch 1.
func together(t *testing.T, seed byte, many int) *net.Net {
	t.Helper()
	n := netOf(t, api.Key{seed, 9}, many)
	for i := range many {
		for k := i + 1; k < many; k++ {
			do(t, n, command(i, api.DoConnect, k))
		}
	}
	n.Calm(1)
	do(t, n, command(0, api.DoCreate, 0))
	for k := 1; k < many; k++ {
		do(t, n, command(0, api.DoAdd, k))
	}
	do(t, n, command(0, api.DoCommit, 0))
	n.Calm(1)
	agree(t, n, 1, n.View(0).Member.Names...)
	return n
}

// agree checks that the nodes are in an epoch, and know the same of it.
func agree(t *testing.T, n *net.Net, epoch int, nodes ...int) {
	t.Helper()
	first := n.View(nodes[0]).Member
	for _, k := range nodes {
		v := n.View(k).Member
		if leaf := v.Leaf; leaf < 0 || !slices.Contains(v.Names, k) {
			t.Fatal("not in the group", k)
		}
		v.Leaf = first.Leaf
		if !v.In || v.Epoch != epoch || !sameMember(v, first) {
			t.Fatalf("node %d:\n%+v\n%+v", k, v, first)
		}
	}
}

func drop(t *testing.T, n *net.Net) {
	t.Helper()
	for len(n.Under()) > 0 {
		do(t, n, api.Pick{Kind: api.PickDrop})
	}
}

func TestPayloadComesOutOnce(t *testing.T) {
	n := together(t, 1, 3)
	do(t, n, send(1, "one"))
	for range 5 {
		for at := range len(n.Under()) {
			do(t, n, api.Pick{Kind: api.PickDouble, At: at})
		}
	}
	given := n.Calm(3)
	for _, k := range []int{0, 2} {
		many := 0
		for _, g := range given {
			if g.Node == k && g.From == 1 && g.Epoch == 1 && string(g.Payload) == "one" {
				many++
			}
		}
		if many != 1 || len(given) != 2 {
			t.Error("node", k, many, len(given))
		}
	}
}

func TestChangedByte(t *testing.T) {
	n := together(t, 2, 2)
	for _, p := range []api.Pick{send(0, "text"), command(0, api.DoUpdate, 0), command(0, api.DoCommit, 0)} {
		do(t, n, p)
		d := n.Under()[len(n.Under())-1]
		for i := range d.Bytes {
			a, b, many := n.View(0), n.View(1), len(n.Under())
			bad := bytes.Clone(d.Bytes)
			bad[i] ^= 1
			given, err := n.Do(api.Pick{Kind: api.PickForge, Node: d.To, From: d.From, Bytes: bad})
			if err == nil || given != nil {
				t.Fatal("byte", i, err)
			}
			if len(n.Under()) != many || !sameView(n.View(0), a) || !sameView(n.View(1), b) {
				t.Fatal("something changed", i)
			}
		}
	}
	if given := n.Calm(2); len(given) != 1 {
		t.Error("what wasn't changed arrives", len(given))
	}
	agree(t, n, 2, 0, 1)
}

func TestLaterCommitFirst(t *testing.T) {
	n := together(t, 3, 3)
	do(t, n, command(0, api.DoCommit, 0))
	one := n.Under()
	drop(t, n)
	do(t, n, command(0, api.DoCommit, 0))
	two := n.Under()
	drop(t, n)
	forge := func(list []net.Datagram, to int) {
		t.Helper()
		for _, d := range list {
			if d.To == to {
				do(t, n, api.Pick{Kind: api.PickForge, Node: to, From: d.From, Bytes: d.Bytes})
			}
		}
	}
	forge(two, 2)
	if v := n.View(2).Member; v.Epoch != 1 || v.Buffered != 1 {
		t.Errorf("%+v", v)
	}
	forge(one, 2)
	agree(t, n, 3, 0, 2)
	if v := n.View(1).Member; v.Epoch != 1 {
		t.Errorf("%+v", v)
	}
}

func TestTwoCommitsDiverge(t *testing.T) {
	n := together(t, 4, 4)
	do(t, n, command(0, api.DoCommit, 0))
	do(t, n, command(1, api.DoCommit, 0))
	n.Calm(2)
	a, b := n.View(0).Member, n.View(1).Member
	if a.Epoch != 2 || b.Epoch != 2 || a.Group != b.Group || a.Base == b.Base || a.Export == b.Export {
		t.Errorf("%+v\n%+v", a, b)
	}
	agree(t, n, 2, 0, 2, 3) // the first one arrived first
	do(t, n, send(1, "lost"))
	if given := n.Calm(1); len(given) != 0 {
		t.Error("a payload crosses", given)
	}
	do(t, n, send(2, "here"))
	if given := n.Calm(1); len(given) != 2 {
		t.Error("payloads", len(given))
	}
}

func TestRemovedIsWiped(t *testing.T) {
	n := together(t, 5, 3)
	do(t, n, command(2, api.DoRemove, 1))
	n.Calm(1)
	do(t, n, send(0, "before"))
	do(t, n, command(0, api.DoCommit, 0))
	n.Calm(1)
	agree(t, n, 2, 0, 2)
	v := n.View(1)
	if !sameMember(v.Member, member.View{Wiped: true}) || len(v.Epochs) != 0 {
		t.Errorf("%+v", v)
	}
	for _, kind := range []int{api.DoCreate, api.DoAdd, api.DoUpdate, api.DoRemove, api.DoCommit, api.DoSend} {
		if _, err := n.Do(command(1, kind, 0)); !errors.Is(err, api.ErrState) {
			t.Error("command", kind, err)
		}
	}
	do(t, n, send(0, "after"))
	for _, g := range n.Calm(2) {
		if g.Node == 1 {
			t.Error("a payload came out")
		}
	}
	do(t, n, command(0, api.DoAdd, 1))
	do(t, n, command(0, api.DoCommit, 0))
	n.Calm(2)
	if !n.View(1).Member.Wiped {
		t.Error("wiped is for ever")
	}
}

func TestFourEpochsAgo(t *testing.T) {
	for turns := range 6 {
		n := together(t, 6, 2)
		do(t, n, send(0, "old"))
		d := n.Under()[0]
		drop(t, n)
		for range turns {
			do(t, n, command(1, api.DoCommit, 0))
			deliver(t, n)
		}
		given, err := n.Do(api.Pick{Kind: api.PickForge, Node: d.To, From: d.From, Bytes: d.Bytes})
		if turns < 4 && (err != nil || len(given) != 1 || given[0].Epoch != 1 || string(given[0].Payload) != "old") {
			t.Error(turns, err)
		}
		if turns >= 4 && (!errors.Is(err, api.ErrEpoch) || given != nil) {
			t.Error(turns, err)
		}
	}
}

// deliver lets everything arrive that is in flight, without a tick.
func deliver(t *testing.T, n *net.Net) {
	t.Helper()
	for len(n.Under()) > 0 {
		do(t, n, api.Pick{Kind: api.PickDeliver})
	}
}

func TestNumbersAreUsedUp(t *testing.T) {
	n := together(t, 7, 2)
	if !n.Jump(0, 1<<32-2) {
		t.Fatal("jump")
	}
	do(t, n, send(0, "last"))
	if _, err := n.Do(send(0, "more")); !errors.Is(err, api.ErrUsedUp) || n.View(0).Next != 1<<32-1 {
		t.Error(err)
	}
	do(t, n, send(1, "other"))
	drop(t, n)
	do(t, n, command(0, api.DoCommit, 0))
	n.Calm(1)
	do(t, n, send(0, "anew"))
	given := n.Calm(1)
	if len(given) != 1 || string(given[0].Payload) != "anew" || given[0].Epoch != 2 {
		t.Error("in the next epoch", given)
	}
}

// TestProgress: over a road that loses and doubles, one commit moves all.
func TestProgress(t *testing.T) {
	for seed := range byte(4) {
		r := rand.New(rand.NewSource(int64(seed)))
		n := together(t, 20+seed, 6)
		rough := func() {
			for len(n.Under()) > 0 {
				p := api.Pick{Kind: []int{api.PickDeliver, api.PickDeliver, api.PickDrop, api.PickDrop, api.PickDouble}[r.Intn(5)], At: r.Intn(len(n.Under()))}
				n.Do(p)
			}
		}
		gone := 1 + r.Intn(5)
		do(t, n, command(0, api.DoRemove, gone))
		rough()
		other := 1 + gone%5
		do(t, n, command(other, api.DoUpdate, 0))
		n.Calm(1)
		do(t, n, command(0, api.DoCommit, 0))
		rough()
		n.Calm(1)
		var rest []int
		for k := range 6 {
			if k != gone {
				rest = append(rest, k)
			}
		}
		agree(t, n, 2, rest...)
		if v := n.View(gone).Member; !sameMember(v, member.View{Wiped: true}) {
			t.Errorf("%+v", v)
		}
		if n.View(0).Waiting[gone] != 0 {
			t.Error("something still waits")
		}
	}
}

// TestWhoIsWelcomedIsIn: those who are added later are in the epoch, and speak there.
func TestWhoIsWelcomedIsIn(t *testing.T) {
	n := netOf(t, api.Key{30}, 8)
	do(t, n, command(3, api.DoCreate, 0))
	in := []int{3}
	for step, k := range []int{0, 1, 2, 4, 5, 6, 7} {
		from := in[step/2]
		for _, other := range in {
			n.Do(command(min(other, k), api.DoConnect, max(other, k)))
		}
		do(t, n, command(from, api.DoAdd, k))
		do(t, n, command(from, api.DoCommit, 0))
		n.Calm(3)
		in = append(in, k)
		agree(t, n, step+1, in...)
		do(t, n, send(k, "hello"))
		if given := n.Calm(1); len(given) != len(in)-1 {
			t.Error("payloads", k, len(given))
		}
	}
}

// person is a member, and its card.
func person(t *testing.T, name int) *member.Member {
	t.Helper()
	k := func(j byte) api.Key { return api.Key{byte(name), j, 77} }
	m, err := member.New(name, k(1), k(2), k(3))
	if err != nil {
		t.Fatal(err)
	}
	return m
}

// TestGroupsOfEverySize: from 2 to 32, and one more is left out.
func TestGroupsOfEverySize(t *testing.T) {
	r := rand.New(rand.NewSource(31))
	key := func() (k api.Key) {
		r.Read(k[:])
		return k
	}
	all := []*member.Member{person(t, 0)}
	if err := all[0].Create(api.Sum(key()), api.Sum(key())); err != nil {
		t.Fatal(err)
	}
	for size := 2; size <= 33; size++ {
		next, by := person(t, size-1), r.Intn(len(all))
		p, err := all[by].Add(next.Card())
		if err != nil {
			t.Fatal(err)
		}
		var keys []api.Key
		for range 64 {
			keys = append(keys, key())
		}
		for i, m := range all {
			if err := m.Take(p); i != by && err != nil {
				t.Fatal("take", err)
			}
		}
		c, w, err := all[by].Commit(key(), key(), keys)
		if err != nil {
			t.Fatal("commit", err)
		}
		for i, m := range all {
			if err := m.Handle(c); i != by && err != nil {
				t.Fatal("handle", err)
			}
		}
		if size == 33 {
			if len(w) != 0 || len(c.Proposals) != 0 || len(all[0].View().Names) != 32 {
				t.Error("one more is left out", len(w), len(c.Proposals))
			}
			break
		}
		if err := next.Join(w[0]); err != nil {
			t.Fatal("join", err)
		}
		all = append(all, next)
		first := all[0].View()
		packets, leaves, _ := all[0].Packets()
		for _, m := range all {
			v := m.View()
			p, n, err := m.Packets()
			if v.Leaf = first.Leaf; !sameMember(v, first) || len(v.Names) != size || p != packets || n != leaves || err != nil {
				t.Fatalf("size %d: %+v", size, v)
			}
		}
	}
}

// knowledge is a tree, and the secret keys that the members know; whoever looks over somebody's shoulder knows as much.
type knowledge struct {
	t     *testing.T
	r     *rand.Rand
	tree  api.Tree
	known map[int]map[int]api.Key // by leaf and node
}

func (k *knowledge) key() (out api.Key) {
	k.r.Read(out[:])
	return out
}

func (k *knowledge) add(name int) {
	secret := k.key()
	next, i, err := tree.Add(k.tree, api.Node{Used: true, Name: name, Key: ladder.Public(secret), Sign: k.key()})
	if err != nil {
		k.t.Fatal(err)
	}
	k.tree, k.known[i] = next, map[int]api.Key{2 * i: secret}
}

func (k *knowledge) remove(i int) {
	next, err := tree.Remove(k.tree, i)
	if err != nil {
		k.t.Fatal(err)
	}
	k.tree = next
	delete(k.known, i)
	k.forget()
}

// forget drops the keys of nodes that aren't used any more.
func (k *knowledge) forget() {
	for _, keys := range k.known {
		for n := range keys {
			if n >= len(k.tree) || !k.tree[n].Used {
				delete(keys, n)
			}
		}
	}
}

// renew is a path of a leaf, that all others learn.
func (k *knowledge) renew(i int) api.Path {
	plan, err := path.New(k.tree, i, k.key(), k.key())
	if err != nil {
		k.t.Fatal(err)
	}
	var draws []api.Key
	for range 64 {
		draws = append(draws, k.key())
	}
	x, err := plan.Path(i, nil, draws)
	if err != nil {
		k.t.Fatal(err)
	}
	for own, keys := range k.known {
		if own == i {
			continue
		}
		l, err := path.Learn(k.tree, i, x, own, keys, nil)
		if err != nil || l.Commit != plan.Commit {
			k.t.Fatal("a member doesn't learn", own, err)
		}
		k.known[own] = l.Keys
	}
	k.known[i] = map[int]api.Key{2 * i: plan.Leaf.Secret}
	for j, n := range plan.Ways {
		k.known[i][n] = path.NodeKey(plan.Secrets[j])
	}
	k.tree = plan.Nodes
	return x
}

// opens tells how many texts of a path can be opened with any of the keys.
func (k *knowledge) opens(x api.Path, keys []api.Key) int {
	many := 0
	for _, step := range x.Steps {
		for _, sealed := range step.Sealed {
			for _, key := range keys {
				if _, err := box.Open(ladder.New(key), nil, sealed); err == nil {
					many++
				}
			}
		}
	}
	return many
}

func values(keys map[int]api.Key) []api.Key {
	var out []api.Key
	for _, key := range keys {
		out = append(out, key)
	}
	return out
}

// TestExclusion: all keys that somebody knew open nothing after the removal, or after the new path of whoever it had them from.
func TestExclusion(t *testing.T) {
	for seed := range int64(3) {
		k := &knowledge{t: t, r: rand.New(rand.NewSource(seed)), known: map[int]map[int]api.Key{}}
		secret := k.key()
		k.tree = api.Tree{{Used: true, Key: ladder.Public(secret)}}
		k.known[0] = map[int]api.Key{0: secret}
		for name := 1; name < 7; name++ {
			k.add(name)
		}
		victim := 2 + int(seed)
		var stolen []api.Key
		for _, i := range []int{0, victim, 5, 1, 6} {
			x := k.renew(i)
			if i == 5 && k.opens(x, values(k.known[victim])) == 0 && k.opens(x, stolen) == 0 {
				t.Fatal("who is in the group learns nothing")
			}
			stolen = append(stolen, values(k.known[victim])...)
		}
		for _, i := range []int{victim, 0, 6} { // its own new path, and those after it
			if many := k.opens(k.renew(i), stolen); many > 0 {
				t.Error("opened after the new path of its own", i, many)
			}
		}
		stolen = append(stolen, values(k.known[victim])...)
		k.remove(victim)
		k.add(20)
		for _, i := range []int{1, 6, victim, 0, 5} { // somebody else is at the leaf now
			if many := k.opens(k.renew(i), stolen); many > 0 {
				t.Error("opened after the removal", i, many)
			}
		}
	}
}
