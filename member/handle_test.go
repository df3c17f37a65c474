package member_test

import (
	"errors"
	"math"
	"slices"
	"testing"

	"burrow/api"
	"burrow/commit"
	"burrow/ladder"
	"burrow/member"
	"burrow/path"
	"burrow/prop"
	"burrow/sign"
	"burrow/tree"
)

// fork is a party whose epoch a test may end in its own way.
func (p *party) fork(t *testing.T, name int, list ...api.Proposal) end {
	t.Helper()
	return p.now.commit(t, p.now.leafOf(name), list, p.s.key(), p.s.key(), p.s.keys(128))
}

// resign signs a commit anew, after a change.
func (p *party) resign(t *testing.T, c api.Commit, name int) api.Commit {
	t.Helper()
	out, err := commit.Sign(c, whoIs(name).seed)
	if err != nil {
		t.Fatal(err)
	}
	return out
}

// refused checks that a commit is refused, and that nothing changes.
func refused(t *testing.T, what string, m *member.Member, c api.Commit, want error) {
	t.Helper()
	before := m.View()
	if err := m.Handle(c); !errors.Is(err, want) {
		t.Error(what, err, want)
	}
	if !sameView(m.View(), before) || len(m.Passed()) != 0 {
		t.Error(what, "something changed")
	}
}

func TestHandleErrors(t *testing.T) {
	p := partyOf(t, 30, 6)
	p.propose(t, 2, func(m *member.Member) (api.Proposal, error) { return m.Remove(5) }, p.now.remove(2, 5))
	gone := p.cached[0]
	good := p.fork(t, 1, gone)
	for _, name := range []int{0, 3, 4} {
		m := p.members[name]
		bad := func(what string, want error, change func(c *api.Commit)) {
			t.Helper()
			c := good.c
			c.Proposals, c.Path.Steps = slices.Clone(c.Proposals), slices.Clone(c.Path.Steps)
			change(&c)
			refused(t, what, m, c, want)
		}
		bad("from", api.ErrForm, func(c *api.Commit) { c.From = 32 })
		bad("from, another group", api.ErrForm, func(c *api.Commit) { c.From = -1; c.Group[0]++ })
		bad("epoch", api.ErrForm, func(c *api.Commit) { c.Epoch = -1 })
		bad("epoch", api.ErrForm, func(c *api.Commit) { c.Epoch = 1 << 32 })
		bad("group", api.ErrEpoch, func(c *api.Commit) { c.Group[31]++ })
		bad("group, later", api.ErrEpoch, func(c *api.Commit) { c.Group[31]++; c.Epoch++ })
		bad("ended epoch", api.ErrEpoch, func(c *api.Commit) { c.Epoch-- })
		bad("base", api.ErrEpoch, func(c *api.Commit) { c.Base[31]++ })
		bad("base, own leaf", api.ErrEpoch, func(c *api.Commit) { c.Base[31]++; c.From = name })
		bad("own leaf", api.ErrMember, func(c *api.Commit) { c.From = name })
		bad("a leaf that isn't used", api.ErrMember, func(c *api.Commit) { c.From = 6 })
		bad("no leaf", api.ErrMember, func(c *api.Commit) { c.From = 31 })
		bad("another leaf", api.ErrAuth, func(c *api.Commit) { c.From = 2 })
		bad("signature", api.ErrAuth, func(c *api.Commit) { c.Sig[0]++ })
		bad("text", api.ErrAuth, func(c *api.Commit) { c.Path.Leaf.Parent[0]++ })
		bad("proposals", api.ErrAuth, func(c *api.Commit) { c.Proposals = nil })
		bad("tag", api.ErrAuth, func(c *api.Commit) { c.Tag[31]++ })
		again := func(what string, want error, change func(c *api.Commit)) {
			t.Helper()
			bad(what, want, func(c *api.Commit) { change(c); *c = p.resign(t, *c, 1) })
		}
		again("a proposal that isn't signed", api.ErrAuth, func(c *api.Commit) { c.Proposals[0].Sig[0]++ })
		again("a proposal of another epoch", api.ErrEpoch, func(c *api.Commit) { c.Proposals[0].Epoch++ })
		again("a proposal of nobody", api.ErrMember, func(c *api.Commit) { c.Proposals[0].From = 7 })
		again("a proposal twice", api.ErrState, func(c *api.Commit) { c.Proposals = append(c.Proposals, c.Proposals[0]) })
		again("its own removal", api.ErrState, func(c *api.Commit) { c.Proposals = []api.Proposal{p.now.remove(3, 1)} })
		again("no steps", api.ErrForm, func(c *api.Commit) { c.Path.Steps = nil })
		again("a leaf of another name", api.ErrForm, func(c *api.Commit) { c.Path.Leaf.Name = 99 })
		again("parent", api.ErrAuth, func(c *api.Commit) { c.Path.Leaf.Parent[0]++ })
		again("a text less", api.ErrForm, func(c *api.Commit) { c.Path.Steps[0].Sealed = nil; c.Path.Steps[1].Sealed = nil })
		again("other texts", api.ErrAuth, func(c *api.Commit) {
			for k, step := range c.Path.Steps {
				c.Path.Steps[k].Sealed = nil
				for range step.Sealed {
					c.Path.Steps[k].Sealed = append(c.Path.Steps[k].Sealed, append([]byte{9}, make([]byte, 79)...))
				}
			}
		})
		again("the old tag behind another signature", api.ErrAuth, func(c *api.Commit) { c.Path.Leaf.Key[0]++ })
		if err := m.Handle(good.c); err != nil {
			t.Fatal("after errors", err)
		}
		good.next.is(t, m, good.next.leafOf(name), 0, 0)
	}
}

func TestRemovedByWhat(t *testing.T) {
	p := partyOf(t, 31, 5)
	m := p.members[3]
	good := p.fork(t, 1, p.now.remove(2, 3))
	c := p.fork(t, 1, p.now.remove(2, 3)).c
	c.Path.Leaf.Parent[0]++
	refused(t, "parent", m, p.resign(t, c, 1), api.ErrAuth)
	c = p.fork(t, 1, p.now.remove(2, 3)).c
	c.Path.Steps = c.Path.Steps[1:]
	refused(t, "steps", m, p.resign(t, c, 1), api.ErrForm)
	c = good.c
	c.Sig[5]++
	refused(t, "signature", m, c, api.ErrAuth)
	c = good.c
	c.Tag[5]++ // it can't know the tag
	if err := m.Handle(c); err != nil {
		t.Fatal(err)
	}
	nowhere(t, m, true)
	never(t, m)
	if leaf, start := m.Card(); leaf.Used || leaf.Name != 0 || start != (api.Key{}) {
		t.Error("a card")
	}
	if err := m.Handle(good.c); !errors.Is(err, api.ErrState) {
		t.Error("after the end", err)
	}
}

func TestUpdates(t *testing.T) {
	p := partyOf(t, 32, 4)
	secret := p.s.key()
	p.propose(t, 2, func(m *member.Member) (api.Proposal, error) { return m.Update(secret) }, p.now.update(2, secret))
	other := p.now.update(2, p.s.key())
	e := p.fork(t, 1, other)
	refused(t, "an Update of its own that it doesn't know", p.members[2], e.c, api.ErrState)
	c := e.c
	c.Path.Steps = nil
	refused(t, "unknown before wrong", p.members[2], p.resign(t, c, 1), api.ErrState)
	if err := p.members[2].Take(other); err != nil {
		t.Error("its own, from elsewhere", err)
	}
	refused(t, "cached isn't known", p.members[2], e.c, api.ErrState)
	for _, name := range []int{0, 3} {
		if err := p.members[name].Take(other); err != nil {
			t.Error(err)
		}
	}
	if err := p.members[1].Take(other); err != nil {
		t.Error(err)
	}
	p.cached = append(p.cached, other)
	p.check(t)
	p.commit(t, 1) // the first of both Updates is chosen, which it knows
	p.commit(t, 2)
	p.commit(t, 3)
}

func TestUpdatesThatFail(t *testing.T) {
	p := partyOf(t, 33, 3)
	m := p.members[2]
	before := m.View()
	if x, err := m.Update(whoIs(2).first); !errors.Is(err, api.ErrForm) || x.Kind != 0 {
		t.Error("the same key", err)
	}
	for n := range 32 {
		if _, err := m.Add(whoIs(40+n).leaf(), api.Key{1}); err != nil {
			t.Fatal(err)
		}
	}
	secret := p.s.key()
	if x, err := m.Update(secret); !errors.Is(err, api.ErrFull) || x.Kind != 0 {
		t.Error("full", err)
	}
	before.Cached = 32
	if !sameView(m.View(), before) {
		t.Error("something changed")
	}
	e := p.fork(t, 1, p.now.update(2, secret))
	refused(t, "an Update that failed", m, e.c, api.ErrState)
	if err := p.members[0].Handle(e.c); err != nil {
		t.Error("another one", err)
	}
}

// late is a run of epochs, each ended by one member alone.
func (p *party) late(t *testing.T, name, many int) []end {
	t.Helper()
	var out []end
	now := p.now
	for range many {
		e := now.commit(t, now.leafOf(name), nil, p.s.key(), p.s.key(), p.s.keys(128))
		out = append(out, e)
		now = e.next
	}
	return out
}

func TestLater(t *testing.T) {
	p := partyOf(t, 34, 4)
	run := p.late(t, 1, 5)
	m := p.members[2]
	for n, i := range []int{3, 1, 4, 2} {
		if err := m.Handle(run[i].c); err != nil {
			t.Fatal("later", i, err)
		}
		p.now.is(t, m, 2, 0, n+1)
		refused(t, "kept already", m, run[i].c, api.ErrReplay)
	}
	passed(t, m)
	if err := m.Handle(run[0].c); err != nil {
		t.Fatal(err)
	}
	run[4].next.is(t, m, 2, 0, 0)
	passed(t, m, run[0].next.passing(2), run[1].next.passing(2), run[2].next.passing(2), run[3].next.passing(2), run[4].next.passing(2))
	for _, e := range run {
		refused(t, "ended", m, e.c, api.ErrEpoch)
	}
}

func TestLaterInOrder(t *testing.T) {
	p := partyOf(t, 35, 4)
	first := p.fork(t, 1)
	q := &party{s: p.s, now: first.next}
	wrong, one, two := q.fork(t, 3).c, q.fork(t, 0), q.fork(t, 3)
	wrong.Sig[0]++
	m := p.members[2]
	for _, c := range []api.Commit{wrong, one.c, two.c} {
		if err := m.Handle(c); err != nil {
			t.Fatal(err)
		}
	}
	p.now.is(t, m, 2, 0, 3)
	r := &party{s: p.s, now: two.next}
	after := r.fork(t, 0).c
	if err := m.Handle(after); err != nil {
		t.Fatal(err)
	}
	if err := m.Handle(first.c); err != nil {
		t.Fatal(err)
	}
	one.next.is(t, m, 2, 0, 0) // what followed the second one failed, and is dropped
	passed(t, m, first.next.passing(2), one.next.passing(2))
	refused(t, "the second one", m, two.c, api.ErrEpoch)
	refused(t, "what followed it", m, after, api.ErrEpoch)
}

func TestLaterFails(t *testing.T) {
	p := partyOf(t, 36, 3)
	run := p.late(t, 1, 3)
	m := p.members[2]
	bad := run[1].c
	bad.Tag[0]++
	for _, c := range []api.Commit{bad, run[2].c} {
		if err := m.Handle(c); err != nil {
			t.Fatal(err)
		}
	}
	if err := m.Handle(run[0].c); err != nil {
		t.Fatal(err)
	}
	run[0].next.is(t, m, 2, 0, 1) // the one that failed is dropped, the later one is kept
	if err := m.Handle(run[1].c); err != nil {
		t.Fatal(err)
	}
	run[2].next.is(t, m, 2, 0, 0)
	passed(t, m, run[0].next.passing(2), run[1].next.passing(2), run[2].next.passing(2))
}

func TestLaterRemoves(t *testing.T) {
	p := partyOf(t, 37, 3)
	first := p.fork(t, 1)
	q := &party{s: p.s, now: first.next}
	second := q.fork(t, 0, first.next.remove(0, 2))
	m := p.members[2]
	if err := m.Handle(second.c); err != nil {
		t.Fatal(err)
	}
	if err := m.Handle(first.c); err != nil {
		t.Fatal(err)
	}
	nowhere(t, m, true)
	never(t, m)
}

func TestLaterAfterItsOwn(t *testing.T) {
	p := partyOf(t, 38, 3)
	leaf, secret, draws := p.s.key(), p.s.key(), p.s.keys(9)
	own := p.now.commit(t, 2, nil, leaf, secret, draws)
	q := &party{s: p.s, now: own.next}
	next := q.fork(t, 0)
	m := p.members[2]
	if err := m.Handle(next.c); err != nil {
		t.Fatal(err)
	}
	if c, _, err := m.Commit(leaf, secret, draws); err != nil || !sameCommit(t, c, own.c) {
		t.Fatal(err)
	}
	next.next.is(t, m, 2, 0, 0)
	passed(t, m, own.next.passing(2), next.next.passing(2))
}

func TestHowManyForLater(t *testing.T) {
	p := partyOf(t, 39, 3)
	m := p.members[2]
	e := p.fork(t, 1)
	c := e.c
	for n := range 32 {
		c.Epoch = p.now.epoch + 1 + n%3
		c.Tag[0] = byte(n)
		if err := m.Handle(c); err != nil {
			t.Fatal(n, err)
		}
		p.now.is(t, m, 2, 0, n+1)
	}
	refused(t, "one that is kept", m, c, api.ErrReplay)
	c.Tag[0] = 99
	refused(t, "one more", m, c, api.ErrFull)
	c.Epoch = 1<<32 - 1
	refused(t, "one more", m, c, api.ErrFull)
	if err := m.Handle(e.c); err != nil {
		t.Fatal(err)
	}
	e.next.is(t, m, 2, 0, 21) // those of the next epoch failed
}

func TestTwoCommitsOfOneEpoch(t *testing.T) {
	p := partyOf(t, 40, 4)
	one, two := p.fork(t, 0), p.fork(t, 1)
	for name, e := range map[int]end{2: one, 3: two} {
		if err := p.members[name].Handle(e.c); err != nil {
			t.Fatal(err)
		}
		e.next.is(t, p.members[name], name, 0, 0)
	}
	p.forget()
	refused(t, "the other one", p.members[2], two.c, api.ErrEpoch)
	refused(t, "the other one", p.members[3], one.c, api.ErrEpoch)
	q := &party{s: p.s, now: one.next}
	refused(t, "of the other branch", p.members[3], q.fork(t, 0).c, api.ErrEpoch)
}

// end32 is a member in the last epoch there is.
func end32(t *testing.T) (*member.Member, state) {
	t.Helper()
	a, b := whoIs(1), whoIs(2)
	s := sourceOf(41)
	now := made(s.sum(), 1<<32-1, api.Tree{a.leaf(), {}, b.leaf()}, s.sum(), s.sum())
	m := b.member(t)
	if err := m.Join(now.welcome(t, b, 0)); err != nil {
		t.Fatal(err)
	}
	now.is(t, m, 1, 0, 0)
	passed(t, m, now.passing(1))
	return m, now
}

func TestLastEpoch(t *testing.T) {
	m, now := end32(t)
	if c, w, err := m.Commit(api.Key{1}, api.Key{2}, nil); !errors.Is(err, api.ErrUsedUp) || c.Sig != (api.Wide{}) || w != nil {
		t.Error("commit", err)
	}
	for _, c := range []api.Commit{
		{Group: now.group, Epoch: now.epoch, From: 0, Base: now.interim},
		{Group: now.group, Epoch: now.epoch, From: 1},
		{Group: now.group, Epoch: now.epoch, From: 9},
	} {
		refused(t, "of the last epoch", m, c, api.ErrUsedUp)
	}
	refused(t, "earlier", m, api.Commit{Group: now.group, Epoch: now.epoch - 1}, api.ErrEpoch)
	refused(t, "another group", m, api.Commit{Epoch: now.epoch}, api.ErrEpoch)
	if _, err := m.Update(api.Key{7}); err != nil {
		t.Error("proposals are made as ever", err)
	}
	now.is(t, m, 1, 1, 0)
}

func TestEpochBeforeTheLast(t *testing.T) {
	a, b := whoIs(1), whoIs(2)
	s := sourceOf(42)
	now := made(s.sum(), 1<<32-2, api.Tree{a.leaf(), {}, b.leaf()}, s.sum(), s.sum())
	m := b.member(t)
	if err := m.Join(now.welcome(t, b, 0)); err != nil {
		t.Fatal(err)
	}
	p := &party{s: s, now: now}
	e := p.fork(t, 1)
	if err := m.Handle(e.c); err != nil {
		t.Fatal(err)
	}
	e.next.is(t, m, 1, 0, 0)
	if e.next.epoch != 1<<32-1 {
		t.Error(e.next.epoch)
	}
}

func TestCommitErrors(t *testing.T) {
	p := partyOf(t, 43, 5)
	p.propose(t, 1, func(m *member.Member) (api.Proposal, error) { return m.Add(whoIs(9).leaf(), startOf(9)) }, p.now.add(1, whoIs(9)))
	p.propose(t, 1, func(m *member.Member) (api.Proposal, error) { return m.Add(whoIs(10).leaf(), startOf(10)) }, p.now.add(1, whoIs(10)))
	m := p.members[2]
	nodes, added, err := p.now.apply(p.cached, 2)
	if err != nil {
		t.Fatal(err)
	}
	need, _ := path.Need(nodes, 2, added...)
	leaf, secret, draws := p.s.key(), p.s.key(), p.s.keys(need+2)
	for n := range need + 2 {
		if c, w, err := m.Commit(leaf, secret, draws[:n]); !errors.Is(err, api.ErrRange) || c.Sig != (api.Wide{}) || w != nil {
			t.Error("draws", n, err)
		}
	}
	p.check(t)
	e := p.now.commit(t, 2, p.cached, leaf, secret, draws)
	c, w, err := m.Commit(leaf, secret, draws)
	if err != nil || !sameCommit(t, c, e.c) || !slices.EqualFunc(w, e.welcomes, sameWelcome) {
		t.Error("just enough draws", err)
	}
	e.next.is(t, m, 2, 0, 0)
}

// TestKeysOfNoUse: somebody's keys can make a commit impossible; nothing changes then.
func TestKeysOfNoUse(t *testing.T) {
	p := partyOf(t, 44, 3)
	m := p.members[1]
	if _, err := m.Add(whoIs(9).leaf(), api.Key{}); err != nil {
		t.Fatal(err)
	}
	if c, w, err := m.Commit(p.s.key(), p.s.key(), p.s.keys(128)); !errors.Is(err, api.ErrRange) || c.Sig != (api.Wide{}) || w != nil {
		t.Error("a start key", err)
	}
	p.now.is(t, m, 1, 1, 0)
	if len(m.Passed()) != 0 {
		t.Error("an epoch was entered")
	}
	e := p.now
	bad := e.update(0, p.s.key())
	bad.Leaf.Key = api.Key{}
	bad = e.signed(bad)
	two := p.members[2]
	if err := two.Take(bad); err != nil {
		t.Fatal(err)
	}
	if _, _, err := two.Commit(p.s.key(), p.s.key(), p.s.keys(128)); !errors.Is(err, api.ErrRange) {
		t.Error("a key of a leaf", err)
	}
	p.now.is(t, two, 2, 1, 0)
}

func TestNamesThatAreRemoved(t *testing.T) {
	p := partyOf(t, 45, 4)
	m := p.members[1]
	for _, name := range []int{-1, 4, 9, 255, 256, math.MinInt, math.MaxInt} {
		if x, err := m.Remove(name); !errors.Is(err, api.ErrMember) || x.Kind != 0 {
			t.Error(name, err)
		}
	}
	if x, err := m.Remove(1); err != nil || x.At != 1 {
		t.Error("itself", err)
	}
	if _, err := m.Remove(1); !errors.Is(err, api.ErrReplay) {
		t.Error("twice", err)
	}
	leaf := p.now.t[2*3]
	if leaf.Name != 3 || tree.Find(p.now.t, 3) != 3 {
		t.Error("names")
	}
}

func TestCardsThatAreAdded(t *testing.T) {
	p := partyOf(t, 46, 3)
	m := p.members[1]
	before := m.View()
	refuse := func(what string, want error, change func(n *api.Node)) {
		t.Helper()
		n := whoIs(9).leaf()
		change(&n)
		if x, err := m.Add(n, api.Key{1}); !errors.Is(err, want) || x.Kind != 0 || x.Leaf.Used {
			t.Error(what, err)
		}
	}
	refuse("name", api.ErrForm, func(n *api.Node) { n.Name = 256 })
	refuse("name", api.ErrForm, func(n *api.Node) { n.Name = -1 })
	refuse("unmerged", api.ErrForm, func(n *api.Node) { n.Unmerged = []int{5, 4} })
	refuse("unmerged", api.ErrForm, func(n *api.Node) { n.Unmerged = []int{1} })
	refuse("not used", api.ErrForm, func(n *api.Node) { n.Used = false })
	refuse("zero", api.ErrForm, func(n *api.Node) { *n = api.Node{} })
	refuse("parent", api.ErrForm, func(n *api.Node) { n.Parent[0]++ })
	refuse("a name that is there", api.ErrMember, func(n *api.Node) { n.Name = 2 })
	if !sameView(m.View(), before) {
		t.Error("something changed")
	}
	if _, err := m.Add(whoIs(9).leaf(), api.Key{1}); err != nil {
		t.Error(err)
	}
	if _, err := m.Add(whoIs(9).leaf(), api.Key{1}); !errors.Is(err, api.ErrReplay) {
		t.Error("twice", err)
	}
	if _, err := m.Add(whoIs(9).leaf(), api.Key{2}); err != nil {
		t.Error("with another start key", err)
	}
}

func TestTakeErrors(t *testing.T) {
	p := partyOf(t, 47, 4)
	m := p.members[1]
	refuse := func(what string, want error, x api.Proposal) {
		t.Helper()
		before := m.View()
		if err := m.Take(x); !errors.Is(err, want) || !sameView(m.View(), before) {
			t.Error(what, err)
		}
	}
	good := p.now.remove(2, 3)
	bad := good
	bad.Kind = 9
	refuse("kind", api.ErrForm, bad)
	bad = good
	bad.Group[0]++
	refuse("group", api.ErrEpoch, bad)
	bad = good
	bad.Epoch++
	refuse("epoch", api.ErrEpoch, bad)
	bad = good
	bad.Base[0]++
	refuse("base", api.ErrEpoch, bad)
	bad = good
	bad.From = 9
	refuse("from", api.ErrMember, bad)
	bad = good
	bad.Sig[0]++
	refuse("signature", api.ErrAuth, bad)
	none := p.now.draft(2, api.Remove)
	none.At = 9
	refuse("nobody", api.ErrMember, p.now.signed(none))
	if err := m.Take(good); err != nil {
		t.Error(err)
	}
	refuse("twice", api.ErrReplay, good)
	for n := range 31 {
		if err := m.Take(p.now.add(2, whoIs(40+n))); err != nil {
			t.Fatal(err)
		}
	}
	p.now.is(t, m, 1, 32, 0)
	refuse("one more", api.ErrFull, p.now.add(2, whoIs(99)))
	refuse("twice before full", api.ErrReplay, good)
	bad = p.now.add(2, whoIs(99))
	bad.Sig[0]++
	refuse("wrong before full", api.ErrAuth, bad)
}

func TestJoinErrors(t *testing.T) {
	a, b, c := whoIs(1), whoIs(2), whoIs(3)
	s := sourceOf(48)
	nodes := api.Tree{a.leaf(), {}, b.leaf()}
	now := made(s.sum(), 7, nodes, s.sum(), s.sum())
	m := b.member(t)
	refuse := func(what string, want error, w api.Welcome) {
		t.Helper()
		if err := m.Join(w); !errors.Is(err, want) {
			t.Error(what, err)
		}
		nowhere(t, m, false)
	}
	info := func(change func(x *api.Info)) api.Welcome {
		x := api.Info{Group: now.group, Epoch: now.epoch, Nodes: tree.Copy(now.t), Confirm: now.confirmed, Tag: now.tag, From: 0}
		change(&x)
		x, err := commit.SignInfo(x, a.seed)
		if err != nil {
			t.Fatal(err)
		}
		return now.welcomeWith(t, b, x)
	}
	good := now.welcome(t, b, 0)
	bad := good
	bad.Name = 3
	refuse("name", api.ErrMember, bad)
	bad = good
	bad.Name = 2 + 256
	refuse("name", api.ErrMember, bad)
	bad = good
	bad.Sealed = nil
	refuse("sealed", api.ErrLen, bad)
	bad = good
	bad.Sealed = make([]byte, 80)
	refuse("sealed", api.ErrRange, bad)
	bad = good
	bad.Info = bad.Info[1:]
	refuse("info", api.ErrAuth, bad)
	other := c
	other.name = 2
	refuse("another start key", api.ErrAuth, now.welcomeWith(t, other, mustSign(t, now, a)))
	refuse("no valid tree", api.ErrAuth, info(func(x *api.Info) { x.Nodes[0].Name = 2 }))
	refuse("not bound", api.ErrAuth, info(func(x *api.Info) { x.Nodes[1] = api.Node{Used: true, Key: api.Key{1}} }))
	refuse("from nobody", api.ErrAuth, info(func(x *api.Info) { x.From = 5 }))
	refuse("from a leaf that isn't used", api.ErrAuth, info(func(x *api.Info) {
		x.Nodes = api.Tree{a.leaf(), {}, {}, {}, b.leaf(), {}, {}}
		x.From = 1
	}))
	refuse("signature", api.ErrAuth, info(func(x *api.Info) { x.From = 1 }))
	unsigned := api.Info{Group: now.group, Epoch: now.epoch, Nodes: now.t, Confirm: now.confirmed, Tag: now.tag}
	refuse("not signed", api.ErrAuth, now.welcomeWith(t, b, unsigned))
	refuse("not in the tree", api.ErrMember, info(func(x *api.Info) { x.Nodes = api.Tree{a.leaf(), {}, c.leaf()} }))
	refuse("another key", api.ErrMember, info(func(x *api.Info) { x.Nodes[2].Key[0]++ }))
	refuse("another sign", api.ErrMember, info(func(x *api.Info) { x.Nodes[2].Sign = a.leaf().Sign }))
	mine := b.leaf()
	x, err := commit.SignInfo(api.Info{Group: now.group, Epoch: now.epoch, Nodes: api.Tree{a.leaf(), {}, mine}, Confirm: now.confirmed, Tag: now.tag, From: 1}, b.seed)
	if err != nil {
		t.Fatal(err)
	}
	refuse("from itself", api.ErrMember, now.welcomeWith(t, b, x))
	refuse("tag", api.ErrAuth, info(func(x *api.Info) { x.Tag[0]++ }))
	refuse("confirm", api.ErrAuth, info(func(x *api.Info) { x.Confirm[0]++ }))
	refuse("epoch", api.ErrAuth, info(func(x *api.Info) { x.Epoch++ }))
	refuse("group", api.ErrAuth, info(func(x *api.Info) { x.Group[0]++ }))
	refuse("a path secret without a path", api.ErrAuth, now.welcome(t, b, 0, api.Sum{1}))
	if err := m.Join(good); err != nil {
		t.Fatal(err)
	}
	now.is(t, m, 1, 0, 0)
	passed(t, m, now.passing(1))
	never(t, m)
	if err := m.Join(good); !errors.Is(err, api.ErrState) {
		t.Error("twice", err)
	}
}

func mustSign(t *testing.T, now state, w who) api.Info {
	t.Helper()
	x, err := commit.SignInfo(api.Info{Group: now.group, Epoch: now.epoch, Nodes: now.t, Confirm: now.confirmed, Tag: now.tag}, w.seed)
	if err != nil {
		t.Fatal(err)
	}
	return x
}

// TestJoinWithoutAPath: who gets no path secret, or a wrong one.
func TestJoinWithoutAPath(t *testing.T) {
	p := partyOf(t, 49, 3)
	e := p.fork(t, 1, p.now.add(1, whoIs(9)))
	m := whoIs(9).member(t)
	if err := m.Join(e.next.welcome(t, whoIs(9), 1, api.Sum{5})); !errors.Is(err, api.ErrAuth) {
		t.Error("another path secret", err)
	}
	nowhere(t, m, false)
	if err := m.Join(e.next.welcome(t, whoIs(9), 1)); err != nil {
		t.Error("none", err)
	}
	e.next.is(t, m, 3, 0, 0)
	with := whoIs(9).member(t)
	if err := with.Join(e.welcomes[0]); err != nil {
		t.Fatal(err)
	}
	q := &party{s: p.s, now: e.next}
	next := q.fork(t, 0)
	if err := with.Handle(next.c); err != nil {
		t.Error("who got a path secret", err)
	}
	next.next.is(t, with, 3, 0, 0)
}

func TestArgumentsAndResultsStay(t *testing.T) {
	p := partyOf(t, 50, 4)
	m := p.members[1]
	leaf := whoIs(9).leaf()
	leaf.Unmerged = make([]int, 0, 4)
	x, err := m.Add(leaf, startOf(9))
	if err != nil {
		t.Fatal(err)
	}
	y := p.now.remove(0, 3)
	y.Leaf.Unmerged = make([]int, 0, 4)
	if err := m.Take(y); err != nil {
		t.Fatal(err)
	}
	later := p.late(t, 2, 2)[1].c
	if err := m.Handle(later); err != nil {
		t.Fatal(err)
	}
	v := m.View()
	v.Names[0] = 77
	secret, up, draws := p.s.key(), p.s.key(), p.s.keys(30)
	kept := slices.Clone(draws)
	clear(later.Path.Steps[0].Sealed[0])
	e := p.now.commit(t, 1, []api.Proposal{x, y}, secret, up, draws)
	c, w, err := m.Commit(secret, up, draws)
	if err != nil || !sameCommit(t, c, e.c) || !slices.Equal(draws, kept) {
		t.Fatal("something was kept", err)
	}
	for i := range c.Path.Steps {
		clear(c.Path.Steps[i].Sealed[0])
	}
	c.Proposals[0] = api.Proposal{}
	clear(w[0].Info)
	clear(draws)
	all := m.Passed()
	all[0].Names[0] = 55
	e.next.is(t, m, 1, 0, 0)
	q := &party{s: p.s, now: e.next}
	next := q.fork(t, 0)
	if err := m.Handle(next.c); err != nil {
		t.Error("something was shared", err)
	}
	next.next.is(t, m, 1, 0, 0)
}

// TestStrangeProposals: what others sign for themselves doesn't count for members.
func TestStrangeProposals(t *testing.T) {
	p := partyOf(t, 51, 3)
	x := p.now.draft(1, api.Remove)
	x.At = 0
	x, err := prop.Sign(x, whoIs(2).seed)
	if err != nil {
		t.Fatal(err)
	}
	if err := p.members[0].Take(x); !errors.Is(err, api.ErrAuth) {
		t.Error("signed by another one", err)
	}
	if sign.Public(whoIs(1).seed) != p.now.t[2].Sign || ladder.Public(whoIs(2).first) != p.now.t[4].Key {
		t.Error("keys")
	}
}
