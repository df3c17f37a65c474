package member_test

import (
	"bytes"
	"math/rand"
	"slices"
	"testing"

	"burrow/api"
	"burrow/commit"
	"burrow/ladder"
	"burrow/mark"
	"burrow/member"
	"burrow/path"
	"burrow/prop"
	"burrow/sched"
	"burrow/seat"
	"burrow/sign"
	"burrow/tree"
	"burrow/wire"
)

type source struct{ *rand.Rand }

func sourceOf(seed int64) source { return source{rand.New(rand.NewSource(seed))} }

func (s source) key() (k api.Key) {
	s.Read(k[:])
	return k
}

func (s source) keys(many int) []api.Key {
	out := make([]api.Key, many)
	for i := range out {
		out[i] = s.key()
	}
	return out
}

func (s source) sum() api.Sum { return api.Sum(s.key()) }

// who is somebody with a name, and the secrets of its card.
type who struct {
	name               int
	seed, first, start api.Key
}

// whoIs makes the same one for the same name, always.
func whoIs(name int) who {
	s := sourceOf(int64(1000 + name))
	return who{name, s.key(), s.key(), s.key()}
}

func (w who) member(t *testing.T) *member.Member {
	t.Helper()
	m, err := member.New(w.name, w.seed, w.first, w.start)
	if err != nil {
		t.Fatal(err)
	}
	return m
}

func (w who) leaf() api.Node {
	return api.Node{Used: true, Name: w.name, Key: ladder.Public(w.first), Sign: sign.Public(w.seed)}
}

// state is an epoch, by the definition: what all of its members know.
type state struct {
	group              api.Sum
	epoch              int
	t                  api.Tree
	secrets            api.Secrets
	confirmed, interim api.Sum
	tag                api.Sum
}

// digest is the digest of a tree.
func digest(t api.Tree) api.Sum {
	d, _ := mark.Tree(t)
	return d
}

// settle fills in what follows from the secrets.
func (s state) settle() state {
	s.tag = sched.Tag(s.secrets, s.confirmed)
	s.interim = sched.Interim(s.confirmed, s.tag)
	return s
}

// created is a new group of one.
func created(w who, group, draw api.Sum) state {
	s := state{group: group, t: api.Tree{w.leaf()}}
	s.secrets = sched.Next(draw, draw, sched.Context(group, 0, digest(s.t), api.Sum{}))
	return s.settle()
}

// made is a group as a test wants it.
func made(group api.Sum, epoch int, t api.Tree, joiner, confirmed api.Sum) state {
	s := state{group: group, epoch: epoch, t: t, confirmed: confirmed}
	s.secrets = sched.Joined(joiner, sched.Context(group, epoch, digest(t), confirmed))
	return s.settle()
}

// draft is a proposal of the epoch that isn't signed.
func (s state) draft(from, kind int) api.Proposal {
	return api.Proposal{Group: s.group, Epoch: s.epoch, From: from, Base: s.interim, Kind: kind}
}

// signed is a proposal, signed by whoever is at its leaf.
func (s state) signed(p api.Proposal) api.Proposal {
	p, err := prop.Sign(p, whoIs(s.t[2*p.From].Name).seed)
	if err != nil {
		panic(err)
	}
	return p
}

func (s state) add(from int, w who) api.Proposal {
	p := s.draft(from, api.Add)
	p.Leaf, p.Start = w.leaf(), ladder.Public(w.start)
	return s.signed(p)
}

func (s state) update(from int, secret api.Key) api.Proposal {
	p := s.draft(from, api.Update)
	p.Leaf = s.t[2*from]
	p.Leaf.Key, p.Leaf.Parent, p.Leaf.Unmerged = ladder.Public(secret), api.Sum{}, nil
	return s.signed(p)
}

func (s state) remove(from, at int) api.Proposal {
	p := s.draft(from, api.Remove)
	p.At = at
	return s.signed(p)
}

func (s state) apply(list []api.Proposal, from int) (api.Tree, []int, error) {
	return prop.Apply(s.t, list, from, s.group, s.epoch, s.interim)
}

// chosen is those of the proposals, in order, with which the list is valid.
func (s state) chosen(list []api.Proposal, from int) []api.Proposal {
	var out []api.Proposal
	for _, p := range list {
		if _, _, err := s.apply(append(slices.Clone(out), p), from); err == nil {
			out = append(out, p)
		}
	}
	return out
}

// end is an epoch's end: the commit, the next epoch, the welcomes, and the plan.
type end struct {
	c        api.Commit
	next     state
	welcomes []api.Welcome
	plan     path.Plan
}

// commit ends the epoch with a list, by the definition.
func (s state) commit(t *testing.T, from int, list []api.Proposal, leaf, secret api.Key, draws []api.Key) end {
	t.Helper()
	nodes, added, err := s.apply(list, from)
	if err != nil {
		t.Fatal("apply", err)
	}
	plan, err := path.New(nodes, from, leaf, secret)
	if err != nil {
		t.Fatal("plan", err)
	}
	need, _ := path.Need(nodes, from, added...)
	info := sched.Context(s.group, s.epoch+1, digest(plan.Nodes), s.confirmed)
	x, err := plan.Path(from, info, draws[:need], added...)
	if err != nil {
		t.Fatal("path", err)
	}
	seed := whoIs(s.t[2*from].Name).seed
	c, err := commit.Sign(api.Commit{Group: s.group, Epoch: s.epoch, From: from, Base: s.interim, Proposals: list, Path: x}, seed)
	if err != nil {
		t.Fatal("sign", err)
	}
	next := s.after(t, c, plan.Nodes, plan.Commit)
	c.Tag = next.tag
	info2, err := commit.SignInfo(api.Info{Group: s.group, Epoch: s.epoch + 1, Nodes: plan.Nodes, Confirm: next.confirmed, Tag: next.tag, From: from}, seed)
	if err != nil {
		t.Fatal("info", err)
	}
	out := end{c: c, next: next, plan: plan}
	for _, p := range list {
		if p.Kind != api.Add {
			continue
		}
		i := added[len(out.welcomes)]
		var secrets []api.Sum
		for k, n := range plan.Ways {
			if first, last := seat.Below(n, seat.Leaves(len(plan.Nodes))); first <= i && i <= last && secrets == nil {
				secrets = append(secrets, plan.Secrets[k])
			}
		}
		w, err := commit.Welcome(p.Leaf.Name, p.Start, draws[need+len(out.welcomes)], next.secrets.Joiner, info2, secrets...)
		if err != nil {
			t.Fatal("welcome", err)
		}
		out.welcomes = append(out.welcomes, w)
	}
	return out
}

// after is the epoch behind a commit.
func (s state) after(t *testing.T, c api.Commit, nodes api.Tree, secret api.Sum) state {
	t.Helper()
	text, err := commit.Text(c)
	if err != nil {
		t.Fatal("text", err)
	}
	next := state{group: s.group, epoch: s.epoch + 1, t: nodes, confirmed: sched.Confirmed(s.interim, text, c.Sig)}
	next.secrets = sched.Next(s.secrets.Init, secret, sched.Context(s.group, s.epoch+1, digest(nodes), next.confirmed))
	return next.settle()
}

// welcome is a welcome to the epoch, without a path secret or with one.
func (s state) welcome(t *testing.T, w who, from int, secrets ...api.Sum) api.Welcome {
	t.Helper()
	info, err := commit.SignInfo(api.Info{Group: s.group, Epoch: s.epoch, Nodes: s.t, Confirm: s.confirmed, Tag: s.tag, From: from}, whoIs(s.t[2*from].Name).seed)
	if err != nil {
		t.Fatal(err)
	}
	return s.welcomeWith(t, w, info, secrets...)
}

func (s state) welcomeWith(t *testing.T, w who, info api.Info, secrets ...api.Sum) api.Welcome {
	t.Helper()
	out, err := commit.Welcome(w.name, ladder.Public(w.start), api.Key{5}, s.secrets.Joiner, info, secrets...)
	if err != nil {
		t.Fatal(err)
	}
	return out
}

// leafOf is the leaf of a name.
func (s state) leafOf(name int) int { return tree.Find(s.t, name) }

// names are the names by leaf; -1: nobody.
func (s state) names() []int {
	var out []int
	for x := 0; x < len(s.t); x += 2 {
		if s.t[x].Used {
			out = append(out, s.t[x].Name)
		} else {
			out = append(out, -1)
		}
	}
	return out
}

// view is the View of a member at a leaf.
func (s state) view(leaf, cached, buffered int) member.View {
	names := slices.DeleteFunc(s.names(), func(n int) bool { return n < 0 })
	return member.View{In: true, Group: s.group, Epoch: s.epoch, Leaf: leaf, Names: names, Tree: digest(s.t), Confirmed: s.confirmed, Base: s.interim, Export: s.secrets.Export, Cached: cached, Buffered: buffered}
}

func sameView(a, b member.View) bool {
	names := slices.Equal(a.Names, b.Names)
	return names && a.In == b.In && a.Wiped == b.Wiped && a.Group == b.Group && a.Epoch == b.Epoch && a.Leaf == b.Leaf && a.Tree == b.Tree &&
		a.Confirmed == b.Confirmed && a.Base == b.Base && a.Export == b.Export && a.Cached == b.Cached && a.Buffered == b.Buffered
}

// is checks that a member is in an epoch.
func (s state) is(t *testing.T, m *member.Member, leaf, cached, buffered int) {
	t.Helper()
	if v := m.View(); !sameView(v, s.view(leaf, cached, buffered)) {
		t.Fatalf("not in the epoch: %+v", v)
	}
	packets, leaves, err := m.Packets()
	if err != nil || packets != s.secrets.Packets || leaves != seat.Leaves(len(s.t)) {
		t.Fatal("packets", leaves, err)
	}
	for i, name := range s.names() {
		if m.Name(i) != name {
			t.Fatal("name", i, m.Name(i))
		}
	}
	for _, i := range []int{-1, seat.Leaves(len(s.t)), 32, 1 << 40} {
		if m.Name(i) != -1 {
			t.Fatal("name of no leaf", i)
		}
	}
}

// passing is what is told of the epoch to a member at a leaf.
func (s state) passing(leaf int) member.Passing {
	return member.Passing{Group: s.group, Epoch: s.epoch, Packets: s.secrets.Packets, Leaves: seat.Leaves(len(s.t)), Leaf: leaf, Names: s.names()}
}

// passed checks what a member tells of the epochs that it came to.
func passed(t *testing.T, m *member.Member, want ...member.Passing) {
	t.Helper()
	got := m.Passed()
	if len(got) != len(want) {
		t.Fatal("passed", len(got), len(want))
	}
	for i, p := range got {
		w := want[i]
		if p.Group != w.Group || p.Epoch != w.Epoch || p.Packets != w.Packets || p.Leaves != w.Leaves || p.Leaf != w.Leaf || !slices.Equal(p.Names, w.Names) {
			t.Fatalf("passing %d: %+v", i, p)
		}
	}
	if len(m.Passed()) != 0 {
		t.Fatal("told twice")
	}
}

func commitBytes(t *testing.T, c api.Commit) []byte {
	t.Helper()
	b, err := wire.PutCommit(c)
	if err != nil {
		t.Fatal(err)
	}
	return b
}

func sameCommit(t *testing.T, a, b api.Commit) bool {
	t.Helper()
	return bytes.Equal(commitBytes(t, a), commitBytes(t, b))
}

func sameProposal(a, b api.Proposal) bool {
	x, err := wire.PutProposal(a)
	y, err2 := wire.PutProposal(b)
	return err == nil && err2 == nil && bytes.Equal(x, y)
}

func sameWelcome(a, b api.Welcome) bool {
	return a.Name == b.Name && bytes.Equal(a.Sealed, b.Sealed) && bytes.Equal(a.Info, b.Info)
}
