package member_test

import (
	"errors"
	"math"
	"slices"
	"testing"

	"burrow/api"
	"burrow/member"
)

func TestNew(t *testing.T) {
	for _, name := range []int{-1, 256, math.MinInt, math.MaxInt, 1 << 32} {
		if m, err := member.New(name, api.Key{1}, api.Key{2}, api.Key{3}); !errors.Is(err, api.ErrRange) || m != nil {
			t.Error(name, err)
		}
	}
	for _, name := range []int{0, 7, 255} {
		m := whoIs(name).member(t)
		leaf, start := m.Card()
		if !slices.EqualFunc([]api.Node{leaf}, []api.Node{whoIs(name).leaf()}, func(a, b api.Node) bool {
			return a.Used == b.Used && a.Name == b.Name && a.Key == b.Key && a.Sign == b.Sign && a.Parent == b.Parent && len(a.Unmerged) == 0
		}) || start == (api.Key{}) {
			t.Error("card", name)
		}
		nowhere(t, m, false)
	}
}

// nowhere checks that a member isn't in a group.
func nowhere(t *testing.T, m *member.Member, wiped bool) {
	t.Helper()
	if v := m.View(); !sameView(v, member.View{Wiped: wiped}) || v.Names != nil {
		t.Fatalf("%+v", v)
	}
	if p, n, err := m.Packets(); !errors.Is(err, api.ErrState) || p != (api.Sum{}) || n != 0 {
		t.Error("packets", err)
	}
	if m.Name(0) != -1 || m.Name(-1) != -1 || len(m.Passed()) != 0 {
		t.Error("name, passed")
	}
	for i, f := range []func() (api.Proposal, error){
		func() (api.Proposal, error) { return m.Add(whoIs(9).leaf(), api.Key{9}) },
		func() (api.Proposal, error) { return m.Add(api.Node{Name: -1}, api.Key{}) },
		func() (api.Proposal, error) { return m.Update(api.Key{1}) },
		func() (api.Proposal, error) { return m.Remove(0) },
		func() (api.Proposal, error) { return m.Remove(999) },
		func() (api.Proposal, error) { return api.Proposal{}, m.Take(api.Proposal{}) },
		func() (api.Proposal, error) { return api.Proposal{}, m.Handle(api.Commit{Epoch: -1}) },
		func() (api.Proposal, error) { return api.Proposal{}, m.Handle(api.Commit{}) },
	} {
		if p, err := f(); !errors.Is(err, api.ErrState) || p.Kind != 0 || p.Sig != (api.Wide{}) {
			t.Error(i, err)
		}
	}
	if c, w, err := m.Commit(api.Key{1}, api.Key{2}, nil); !errors.Is(err, api.ErrState) || c.Sig != (api.Wide{}) || w != nil {
		t.Error("commit", err)
	}
}

// never checks that a member can't come into a group any more.
func never(t *testing.T, m *member.Member) {
	t.Helper()
	if err := m.Create(api.Sum{1}, api.Sum{2}); !errors.Is(err, api.ErrState) {
		t.Error("create", err)
	}
	for _, name := range []int{0, 1, 99} {
		if err := m.Join(api.Welcome{Name: name}); !errors.Is(err, api.ErrState) {
			t.Error("join", err)
		}
	}
}

func TestNil(t *testing.T) {
	var m *member.Member
	nowhere(t, m, false)
	never(t, m)
	if leaf, start := m.Card(); leaf.Used || leaf.Sign != (api.Key{}) || start != (api.Key{}) {
		t.Error("card")
	}
}

func TestCreate(t *testing.T) {
	s := sourceOf(1)
	for _, name := range []int{0, 255} {
		w := whoIs(name)
		m, group, draw := w.member(t), s.sum(), s.sum()
		if err := m.Create(group, draw); err != nil {
			t.Fatal(err)
		}
		want := created(w, group, draw)
		want.is(t, m, 0, 0, 0)
		passed(t, m, want.passing(0))
		never(t, m)
		want.is(t, m, 0, 0, 0)
		if leaf, _ := m.Card(); leaf.Name != name || leaf.Key != w.leaf().Key {
			t.Error("the card stays")
		}
	}
}

func TestExample(t *testing.T) {
	s := sourceOf(2)
	a, b := whoIs(1).member(t), whoIs(2).member(t)
	if err := a.Create(s.sum(), s.sum()); err != nil {
		t.Fatal(err)
	}
	leaf, start := b.Card()
	if _, err := a.Add(leaf, start); err != nil {
		t.Fatal(err)
	}
	_, welcomes, err := a.Commit(s.key(), s.key(), s.keys(1))
	if err != nil || len(welcomes) != 1 {
		t.Fatal("one welcome", len(welcomes), err)
	}
	if err := b.Join(welcomes[0]); err != nil {
		t.Fatal(err)
	}
	one, two := a.View(), b.View()
	if one.Leaf != 0 || two.Leaf != 1 {
		t.Error("leaves")
	}
	two.Leaf = 0
	if !sameView(one, two) || one.Epoch != 1 || !slices.Equal(one.Names, []int{1, 2}) {
		t.Error("the views differ")
	}
}

// party is a group of members, and what all of them should know.
type party struct {
	s       source
	now     state
	members map[int]*member.Member // by name
	cached  []api.Proposal
}

// partyOf is a party of names 0, 1, ..; the first one has added the others.
func partyOf(t *testing.T, seed int64, many int) *party {
	t.Helper()
	p := &party{s: sourceOf(seed), members: map[int]*member.Member{}}
	group, draw := p.s.sum(), p.s.sum()
	p.members[0] = whoIs(0).member(t)
	if err := p.members[0].Create(group, draw); err != nil {
		t.Fatal(err)
	}
	p.now = created(whoIs(0), group, draw)
	p.forget()
	if many > 1 {
		for name := 1; name < many; name++ {
			p.propose(t, 0, func(m *member.Member) (api.Proposal, error) {
				return m.Add(whoIs(name).leaf(), startOf(name))
			}, p.now.add(0, whoIs(name)))
		}
		p.commit(t, 0)
	}
	return p
}

func startOf(name int) api.Key {
	m, _ := member.New(name, whoIs(name).seed, whoIs(name).first, whoIs(name).start)
	_, start := m.Card()
	return start
}

// forget empties what is told of epochs.
func (p *party) forget() {
	for _, m := range p.members {
		m.Passed()
	}
}

// names are those of the members, rising.
func (p *party) names() []int {
	var out []int
	for _, name := range p.now.names() {
		if name >= 0 {
			out = append(out, name)
		}
	}
	slices.Sort(out)
	return out
}

func (p *party) some() int {
	list := p.names()
	return list[p.s.Intn(len(list))]
}

// propose lets one propose, checks what comes of it, and gives it to all others.
func (p *party) propose(t *testing.T, name int, do func(m *member.Member) (api.Proposal, error), want api.Proposal) {
	t.Helper()
	got, err := do(p.members[name])
	if err != nil || !sameProposal(got, want) {
		t.Fatal("proposal", err)
	}
	for other, m := range p.members {
		if other != name {
			if err := m.Take(got); err != nil {
				t.Fatal("take", err)
			}
		}
		if err := m.Take(got); !errors.Is(err, api.ErrReplay) {
			t.Fatal("take twice", err)
		}
	}
	p.cached = append(p.cached, want)
	p.check(t)
}

// check checks that all are in the epoch.
func (p *party) check(t *testing.T) {
	t.Helper()
	for name, m := range p.members {
		p.now.is(t, m, p.now.leafOf(name), len(p.cached), 0)
	}
}

// commit lets one commit, checks what comes of it, and gives it to all others.
func (p *party) commit(t *testing.T, name int) end {
	t.Helper()
	from := p.now.leafOf(name)
	leaf, secret, draws := p.s.key(), p.s.key(), p.s.keys(128)
	e := p.now.commit(t, from, p.now.chosen(p.cached, from), leaf, secret, draws)
	c, welcomes, err := p.members[name].Commit(leaf, secret, draws)
	if err != nil || !sameCommit(t, c, e.c) || !slices.EqualFunc(welcomes, e.welcomes, sameWelcome) {
		t.Fatal("commit", err)
	}
	p.follow(t, name, e)
	return e
}

// follow gives a commit to all but the one who made it, and the welcomes to those who are added.
func (p *party) follow(t *testing.T, name int, e end) {
	t.Helper()
	for other, m := range p.members {
		if other != name {
			if err := m.Handle(e.c); err != nil {
				t.Fatal("handle", other, err)
			}
		}
		if e.next.leafOf(other) < 0 {
			nowhere(t, m, true)
			never(t, m)
			if leaf, start := m.Card(); leaf.Used || start != (api.Key{}) {
				t.Fatal("a card of one that is wiped")
			}
			delete(p.members, other)
			continue
		}
		passed(t, m, e.next.passing(e.next.leafOf(other)))
	}
	for _, w := range e.welcomes {
		m := whoIs(w.Name).member(t)
		if err := m.Join(w); err != nil {
			t.Fatal("join", err)
		}
		passed(t, m, e.next.passing(e.next.leafOf(w.Name)))
		p.members[w.Name] = m
	}
	p.now, p.cached = e.next, nil
	p.check(t)
}

// act lets somebody propose something that is valid.
func (p *party) act(t *testing.T) {
	t.Helper()
	name := p.some()
	from := p.now.leafOf(name)
	switch p.s.Intn(3) {
	case 0:
		other := p.s.Intn(30)
		if p.now.leafOf(other) >= 0 {
			return
		}
		want := p.now.add(from, whoIs(other))
		if p.has(want) {
			return
		}
		p.propose(t, name, func(m *member.Member) (api.Proposal, error) { return m.Add(whoIs(other).leaf(), startOf(other)) }, want)
	case 1:
		secret := p.s.key()
		p.propose(t, name, func(m *member.Member) (api.Proposal, error) { return m.Update(secret) }, p.now.update(from, secret))
	case 2:
		other := p.some()
		want := p.now.remove(from, p.now.leafOf(other))
		if p.has(want) || len(p.now.names()) < 4 {
			return
		}
		p.propose(t, name, func(m *member.Member) (api.Proposal, error) { return m.Remove(other) }, want)
	}
}

func (p *party) has(x api.Proposal) bool {
	return slices.ContainsFunc(p.cached, func(q api.Proposal) bool { return sameProposal(x, q) })
}

func TestParties(t *testing.T) {
	for seed := range int64(5) {
		p := partyOf(t, seed, 1+int(seed)*2)
		for range 14 {
			for range p.s.Intn(6) {
				p.act(t)
			}
			p.commit(t, p.some())
		}
	}
}

func TestCommitsOfNothing(t *testing.T) {
	p := partyOf(t, 9, 1)
	p.commit(t, 0)
	p.commit(t, 0)
	p = partyOf(t, 9, 5)
	for name := range 5 {
		p.commit(t, name)
	}
}

func TestOneRemovesMost(t *testing.T) {
	p := partyOf(t, 10, 9)
	for name := 1; name < 8; name++ {
		p.propose(t, 8, func(m *member.Member) (api.Proposal, error) { return m.Remove(name) }, p.now.remove(8, p.now.leafOf(name)))
	}
	p.commit(t, 8)
	if len(p.members) != 2 {
		t.Error("members", len(p.members))
	}
	p.propose(t, 0, func(m *member.Member) (api.Proposal, error) { return m.Remove(8) }, p.now.remove(0, p.now.leafOf(8)))
	e := p.commit(t, 0)
	if len(p.members) != 1 || len(e.next.t) != 1 {
		t.Error("members", len(p.members), len(e.next.t))
	}
}

func TestFullGroup(t *testing.T) {
	p := partyOf(t, 11, 31)
	for name := 31; name < 34; name++ {
		p.propose(t, 0, func(m *member.Member) (api.Proposal, error) { return m.Add(whoIs(name).leaf(), startOf(name)) }, p.now.add(0, whoIs(name)))
	}
	e := p.commit(t, 3)
	if len(e.c.Proposals) != 1 || len(p.members) != 32 {
		t.Error("one of three finds room", len(e.c.Proposals), len(p.members))
	}
}
