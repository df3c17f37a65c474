package net_test

import (
	"bytes"
	"math/rand"
	"slices"
	"testing"

	"burrow/api"
	"burrow/member"
	"burrow/net"
	"burrow/node"
)

// twin is a net and the world that tells what it does.
type twin struct {
	t      *testing.T
	n      *net.Net
	w      *world
	r      *rand.Rand
	known  map[string]*letter     // by who sent it to whom, and its bytes
	bytes  map[letter]string      // of the handshakes' datagrams
	views  map[*epoch]member.View // what all in an epoch know
	bases  map[api.Sum]*epoch
	seen   []net.Datagram
	errors map[error]int
	out    int // payloads that came out
}

func twinOf(t *testing.T, seed int64, many int) *twin {
	t.Helper()
	return &twin{t, netOf(t, api.Key{byte(seed), 1}, many), newWorld(many), rand.New(rand.NewSource(seed)),
		map[string]*letter{}, map[letter]string{}, map[*epoch]member.View{}, map[api.Sum]*epoch{}, nil, map[error]int{}, 0}
}

func name(from, to int, b []byte) string {
	return string([]byte{byte(from), byte(to)}) + string(b)
}

// learn takes down what goes out, and holds it against what the world says. Most times it looks at the last ones alone.
func (x *twin) learn(before int) {
	x.t.Helper()
	under := x.n.Under()
	if len(under) != len(x.w.under) {
		x.t.Fatal("in flight", len(under), len(x.w.under))
	}
	first := max(0, before-2)
	if x.r.Intn(30) == 0 {
		first = 0
	}
	for i, d := range under {
		if i >= first {
			x.same(d, x.w.under[i])
		}
	}
}

// same checks that a datagram is a letter.
func (x *twin) same(d net.Datagram, l *letter) {
	x.t.Helper()
	if d.From != l.from || d.To != l.to || int(d.Bytes[0]) != l.kind {
		x.t.Fatal("in flight", d.From, d.To, d.Bytes[0], l)
	}
	key := name(d.From, d.To, d.Bytes)
	if x.known[key] == nil {
		x.known[key] = l
		x.seen = append(x.seen, d)
	}
	if k := x.known[key]; l.kind == 3 && k.number != l.number {
		x.t.Fatal("the same bytes for two messages")
	}
	if l.kind != 3 {
		if b, ok := x.bytes[*l]; ok && b != string(d.Bytes) {
			x.t.Fatal("other bytes for the same handshake")
		}
		x.bytes[*l] = string(d.Bytes)
	}
}

// look checks how all nodes stand.
func (x *twin) look() {
	x.t.Helper()
	for k, s := range x.w.souls {
		v := x.n.View(k)
		want := node.View{}
		for i, r := range s.roads {
			if r.linked {
				want.Linked = append(want.Linked, i)
			}
			want.Waiting = append(want.Waiting, len(r.waiting))
		}
		for _, h := range s.box {
			want.Epochs = append(want.Epochs, h.e.number)
		}
		if len(s.box) > 0 {
			want.Next = s.own().place
		}
		want.Member = x.member(s, v.Member)
		if !sameView(v, want) {
			x.t.Fatalf("node %d:\n%+v\n%+v", k, v, want)
		}
	}
}

// member is the part of a view that the world tells; what is made of keys is the same for all in an epoch, and different in another one.
func (x *twin) member(s *soul, v member.View) member.View {
	x.t.Helper()
	if s.at == nil {
		return member.View{Wiped: s.wiped}
	}
	known, ok := x.views[s.at]
	if !ok {
		if x.bases[v.Base] != nil {
			x.t.Fatal("two epochs with the same transcript")
		}
		known = v
		x.views[s.at], x.bases[v.Base] = v, s.at
	}
	return member.View{
		In: true, Epoch: s.at.number, Leaf: s.leaf, Cached: len(s.cached), Buffered: len(s.later),
		Names: slices.DeleteFunc(slices.Clone(s.at.names), func(n int) bool { return n < 0 }),
		Group: known.Group, Tree: known.Tree, Confirmed: known.Confirmed, Base: known.Base, Export: known.Export,
	}
}

// expect is what the world says of a pick.
func (x *twin) expect(p api.Pick) ([]net.Given, error) {
	switch p.Kind {
	case api.PickCommand:
		if p.Node < 0 || p.Node >= len(x.w.souls) {
			return nil, api.ErrRange
		}
		out, err := x.w.souls[p.Node].step(p.Command)
		x.w.put(out...)
		return nil, err
	case api.PickForge:
		if p.Node < 0 || p.Node >= len(x.w.souls) {
			return nil, api.ErrRange
		}
		s := x.w.souls[p.Node]
		if l := x.known[name(p.From, p.Node, p.Bytes)]; l != nil && s.other(p.From) {
			return x.arrive(s, l)
		}
		return nil, s.garbage(p.From, p.Bytes)
	case api.PickDeliver, api.PickDrop, api.PickDouble:
		if p.At < 0 || p.At >= len(x.w.under) {
			return nil, api.ErrRange
		}
		l := x.w.under[p.At]
		if p.Kind == api.PickDouble {
			x.w.put(l)
			return nil, nil
		}
		x.w.under = slices.Delete(slices.Clone(x.w.under), p.At, p.At+1)
		if p.Kind == api.PickDrop {
			return nil, nil
		}
		return x.arrive(x.w.souls[l.to], l)
	}
	return nil, api.ErrForm
}

func (x *twin) arrive(s *soul, l *letter) ([]net.Given, error) {
	out, g, err := s.receive(l)
	x.w.put(out...)
	if g == nil {
		return nil, err
	}
	x.out++
	return []net.Given{{Node: s.name, From: g.from, Epoch: g.epoch, Payload: []byte(g.text)}}, err
}

// pick performs a pick in both.
func (x *twin) pick(p api.Pick) error {
	x.t.Helper()
	before := len(x.w.under)
	want, wantErr := x.expect(p)
	got, err := x.n.Do(p)
	if !is(err, wantErr) || !sameGiven(got, want) {
		x.t.Fatalf("pick %+v: %v, %v; %v, %v", p, got, err, want, wantErr)
	}
	x.learn(before)
	if err != nil {
		x.errors[err]++
	}
	return err
}

// do performs a pick in both, and looks at all nodes; an error changes none of them.
func (x *twin) do(p api.Pick) {
	x.t.Helper()
	before := x.all()
	err := x.pick(p)
	x.look()
	for k, v := range before {
		if err != nil && !sameView(v, x.n.View(k)) {
			x.t.Fatal("an error changed node", k)
		}
	}
}

// all is how all stand.
func (x *twin) all() []node.View {
	var out []node.View
	for k := range x.w.souls {
		out = append(out, x.n.View(k))
	}
	return out
}

// calm is calm rounds, pick by pick.
func (x *twin) calm(rounds int) {
	x.t.Helper()
	for range rounds {
		for k := range x.w.souls {
			x.pick(command(k, api.DoTick, 0))
		}
		for len(x.w.under) > 0 {
			x.pick(api.Pick{Kind: api.PickDeliver})
		}
		x.look()
	}
}

// links connects all nodes.
func (x *twin) links() {
	x.t.Helper()
	many := len(x.w.souls)
	for i := range many {
		for k := i + 1; k < many; k++ {
			x.do(command(i, api.DoConnect, k))
		}
	}
	x.calm(1)
}

// command is a command of any kind, most of them of use.
func (x *twin) command() api.Pick {
	many := len(x.w.souls)
	p := command(x.r.Intn(many), 1+x.r.Intn(8), x.r.Intn(many))
	switch x.r.Intn(12) {
	case 0:
		p.Command.Peer = x.r.Intn(14) - 3
	case 1:
		p.Command.Kind = x.r.Intn(12) - 1
	case 2, 3:
		p.Command.Kind = api.DoSend
	case 4:
		p.Command.Kind = api.DoTick
	}
	if p.Command.Kind == api.DoCreate && x.r.Intn(4) > 0 {
		p.Command.Kind = api.DoAdd
	}
	if p.Command.Kind == api.DoRemove && x.r.Intn(3) > 0 {
		p.Command.Kind = api.DoUpdate
	}
	if p.Command.Kind == api.DoTick && len(x.w.under) > 100 {
		p.Command.Kind = api.DoSend
	}
	if p.Command.Kind == api.DoSend {
		p.Command.Payload = []byte{byte(x.r.Intn(256)), byte(x.r.Intn(256))}
		if x.r.Intn(10) == 0 {
			p.Command.Payload = make([]byte, 1020+x.r.Intn(8))
		}
	}
	return p
}

// forge is bytes that were seen, changed or not, or others.
func (x *twin) forge() api.Pick {
	many := len(x.w.souls)
	p := api.Pick{Kind: api.PickForge, Node: x.r.Intn(many), From: x.r.Intn(many)}
	if len(x.seen) == 0 || x.r.Intn(4) == 0 {
		p.Bytes = make([]byte, x.r.Intn(120))
		x.r.Read(p.Bytes)
		if len(p.Bytes) > 0 {
			p.Bytes[0] = byte(x.r.Intn(5))
		}
		return p
	}
	d := x.seen[len(x.seen)-1-min(x.r.Intn(len(x.seen)), x.r.Intn(len(x.seen)))]
	p.Bytes = bytes.Clone(d.Bytes)
	if x.r.Intn(4) > 0 {
		p.Node, p.From = d.To, d.From
	}
	switch x.r.Intn(4) {
	case 0:
		p.Bytes[x.r.Intn(len(p.Bytes))] ^= 1 << x.r.Intn(8)
	case 1:
		p.Bytes = p.Bytes[:x.r.Intn(len(p.Bytes))]
	}
	return p
}

// gather puts all nodes into one group.
func (x *twin) gather() {
	x.t.Helper()
	x.do(command(0, api.DoCreate, 0))
	for k := 1; k < len(x.w.souls); k++ {
		x.do(command(0, api.DoAdd, k))
	}
	x.do(command(0, api.DoCommit, 0))
	x.calm(1)
}

// any is a pick of any kind; so many of a hundred let something arrive.
func (x *twin) any(arrives int) {
	x.t.Helper()
	under, roll := len(x.w.under), x.r.Intn(100)
	switch {
	case under > 0 && roll < arrives:
		at := x.r.Intn(under)
		if x.r.Intn(3) > 0 {
			at = x.r.Intn(min(4, under))
		}
		x.do(api.Pick{Kind: api.PickDeliver, At: at})
	case roll >= 98:
		x.do(api.Pick{Kind: api.PickDrop, At: x.r.Intn(under + 2)})
	case roll >= 95:
		x.do(api.Pick{Kind: api.PickDouble, At: x.r.Intn(under + 2)})
	case roll >= 91:
		x.do(x.forge())
	case roll == 90 && x.r.Intn(4) == 0:
		k, number := x.r.Intn(len(x.w.souls)), []int{x.r.Intn(400), x.r.Intn(400), 1<<32 - 2, 1<<32 - 1, -1, 1 << 32}[x.r.Intn(6)]
		if x.n.Jump(k, number) != x.w.souls[k].jump(number) {
			x.t.Fatal("jump", k, number)
		}
		x.look()
	default:
		x.do(x.command())
	}
}

// TestRefinement: whatever is picked, nodes do what the world says.
func TestRefinement(t *testing.T) {
	errors, out := map[error]int{}, 0
	for seed := range int64(16) {
		x := twinOf(t, seed, 2+int(seed)%7)
		if seed%4 > 0 {
			x.links()
		}
		if seed%4 > 1 {
			x.gather()
		}
		arrives := 3 + x.r.Intn(80)
		for range 400 {
			x.any(arrives)
		}
		x.calm(2)
		for err, many := range x.errors {
			errors[err] += many
		}
		out += x.out
	}
	for _, err := range []error{api.ErrLen, api.ErrAuth, api.ErrForm, api.ErrRange, api.ErrEpoch, api.ErrReplay, api.ErrMember, api.ErrState, api.ErrUsedUp, api.ErrOld} {
		if errors[err] == 0 {
			t.Error("never seen:", err)
		}
	}
	if out < 200 {
		t.Error("payloads that came out", out)
	}
	t.Log(errors, out)
}

// TestRefinementAtTheLimits: nodes do what the world says where something is full, or too far, or too old.
func TestRefinementAtTheLimits(t *testing.T) {
	x := twinOf(t, 100, 3)
	x.links()
	x.gather()
	for n := range 70 {
		p := command(1, api.DoSend, 0)
		p.Command.Payload = []byte{byte(n)}
		x.do(p)
	}
	for _, kind := range []int{api.DoAdd, api.DoUpdate, api.DoRemove, api.DoCommit, api.DoSend} {
		x.do(command(1, kind, 2))
		x.do(command(1, kind, 9))
	}
	if x.errors[api.ErrFull] < 14 {
		t.Error("full", x.errors)
	}
	for len(x.w.under) > 40 { // the last one first, so that some are too old
		x.do(api.Pick{Kind: api.PickDeliver, At: len(x.w.under) - 1 - x.r.Intn(3)})
	}
	x.calm(2)
	if !x.n.Jump(0, 300) || !x.w.souls[0].jump(300) {
		t.Fatal("jump")
	}
	x.do(command(0, api.DoSend, 0))
	x.do(command(2, api.DoSend, 0))
	x.calm(1)
	for range 40 { // the proposals of an epoch are full
		x.do(command(2, api.DoUpdate, 0))
		x.calm(1)
	}
	x.do(command(0, api.DoCommit, 0))
	x.calm(1)
	for _, err := range []error{api.ErrFull, api.ErrFar} {
		if x.errors[err] == 0 {
			t.Error("never seen:", err)
		}
	}
	x.commitsAhead()
	for range 5 { // what is kept of four epochs
		x.do(command(2, api.DoSend, 0))
		x.do(command(1, api.DoCommit, 0))
	}
	x.calm(2)
	t.Log(x.errors)
}

// commitsAhead lets more commits arrive ahead of their time than are kept.
func (x *twin) commitsAhead() {
	x.t.Helper()
	var first, later []net.Datagram
	for n := range 40 {
		x.do(command(0, api.DoCommit, 0))
		for _, d := range x.n.Under() {
			if d.To == 2 && n == 0 {
				first = append(first, d)
			} else if d.To == 2 {
				later = append(later, d)
			}
		}
		for len(x.w.under) > 0 {
			x.do(api.Pick{Kind: api.PickDrop})
		}
	}
	for _, d := range append(later, first...) {
		x.do(api.Pick{Kind: api.PickForge, Node: 2, From: d.From, Bytes: d.Bytes})
	}
	x.calm(3)
}
