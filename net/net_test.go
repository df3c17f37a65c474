package net_test

import (
	"bytes"
	"errors"
	"math"
	"math/rand"
	"slices"
	"testing"

	"burrow/api"
	"burrow/kdf"
	"burrow/member"
	"burrow/net"
	"burrow/node"
)

func keyOf(t *testing.T, seed api.Key, label string, context ...byte) api.Key {
	t.Helper()
	b, err := kdf.Label(api.Sum(seed), label, context, 32)
	if err != nil {
		t.Fatal(err)
	}
	return api.Key(b)
}

// shadow is a net by the definition, made of nodes.
type shadow struct {
	seed  api.Key
	nodes []*node.Node
	under []net.Datagram
	picks int
}

func shadowOf(t *testing.T, seed api.Key, many int) *shadow {
	t.Helper()
	s := &shadow{seed: seed}
	var peers []node.Peer
	secrets := func(i int) node.Secrets {
		k := func(j byte) api.Key { return keyOf(t, seed, "node", byte(i), j) }
		return node.Secrets{Static: k(0), Seed: k(1), First: k(2), Start: k(3)}
	}
	for i := range many {
		p, err := node.Card(i, secrets(i))
		if err != nil {
			t.Fatal(err)
		}
		peers = append(peers, p)
	}
	for i := range many {
		n, err := node.New(i, secrets(i), peers)
		if err != nil {
			t.Fatal(err)
		}
		s.nodes = append(s.nodes, n)
	}
	return s
}

func (s *shadow) draw(t *testing.T) api.Key {
	k := s.picks
	s.picks++
	return keyOf(t, s.seed, "pick", byte(k>>24), byte(k>>16), byte(k>>8), byte(k))
}

func (s *shadow) spread(k int, outs []api.Out, err error) ([]net.Given, error) {
	var given []net.Given
	for _, o := range outs {
		if o.Peer >= 0 {
			s.put(net.Datagram{From: k, To: o.Peer, Bytes: o.Bytes})
		} else {
			given = append(given, net.Given{Node: k, From: o.From, Epoch: o.Epoch, Payload: o.Bytes})
		}
	}
	return given, err
}

func (s *shadow) put(d net.Datagram) {
	if len(s.under) < 4096 {
		s.under = append(s.under, d)
	}
}

func (s *shadow) do(t *testing.T, p api.Pick) ([]net.Given, error) {
	t.Helper()
	draw := s.draw(t)
	inNodes, inUnder := p.Node >= 0 && p.Node < len(s.nodes), p.At >= 0 && p.At < len(s.under)
	switch {
	case p.Kind < api.PickCommand || p.Kind > api.PickForge:
		return nil, api.ErrForm
	case (p.Kind == api.PickCommand || p.Kind == api.PickForge) && !inNodes:
		return nil, api.ErrRange
	case p.Kind != api.PickCommand && p.Kind != api.PickForge && !inUnder:
		return nil, api.ErrRange
	}
	switch p.Kind {
	case api.PickCommand:
		outs, err := s.nodes[p.Node].Step(p.Command, draw)
		return s.spread(p.Node, outs, err)
	case api.PickForge:
		outs, err := s.nodes[p.Node].Receive(p.From, p.Bytes, draw)
		return s.spread(p.Node, outs, err)
	case api.PickDouble:
		s.put(s.under[p.At])
		return nil, nil
	}
	d := s.under[p.At]
	s.under = append(slices.Clone(s.under[:p.At]), s.under[p.At+1:]...)
	if p.Kind == api.PickDrop {
		return nil, nil
	}
	outs, err := s.nodes[d.To].Receive(d.From, d.Bytes, draw)
	return s.spread(d.To, outs, err)
}

func (s *shadow) calm(t *testing.T, rounds int) []net.Given {
	t.Helper()
	var out []net.Given
	for round := 0; round < rounds && round < 64; round++ {
		for k := range s.nodes {
			given, _ := s.do(t, api.Pick{Kind: api.PickCommand, Node: k, Command: api.Command{Kind: api.DoTick}})
			out = append(out, given...)
		}
		for len(s.under) > 0 {
			given, _ := s.do(t, api.Pick{Kind: api.PickDeliver})
			out = append(out, given...)
		}
	}
	return out
}

func sameGiven(a, b []net.Given) bool {
	return slices.EqualFunc(a, b, func(a, b net.Given) bool {
		return a.Node == b.Node && a.From == b.From && a.Epoch == b.Epoch && bytes.Equal(a.Payload, b.Payload)
	})
}

func sameUnder(a, b []net.Datagram) bool {
	return slices.EqualFunc(a, b, func(a, b net.Datagram) bool {
		return a.From == b.From && a.To == b.To && bytes.Equal(a.Bytes, b.Bytes)
	})
}

func sameMember(a, b member.View) bool {
	return slices.Equal(a.Names, b.Names) && a.In == b.In && a.Wiped == b.Wiped && a.Group == b.Group && a.Epoch == b.Epoch && a.Leaf == b.Leaf &&
		a.Tree == b.Tree && a.Confirmed == b.Confirmed && a.Base == b.Base && a.Export == b.Export && a.Cached == b.Cached && a.Buffered == b.Buffered
}

func sameView(a, b node.View) bool {
	return sameMember(a.Member, b.Member) && slices.Equal(a.Linked, b.Linked) && slices.Equal(a.Waiting, b.Waiting) && slices.Equal(a.Epochs, b.Epochs) && a.Next == b.Next
}

// is tells whether an error is the one that is wanted, or both are none.
func is(err, want error) bool {
	if want == nil {
		return err == nil
	}
	return errors.Is(err, want)
}

func netOf(t *testing.T, seed api.Key, many int) *net.Net {
	t.Helper()
	n, err := net.New(seed, many)
	if err != nil || n.Many() != many {
		t.Fatal("new", many, err)
	}
	return n
}

// like checks that a net is what the shadow is.
func (s *shadow) like(t *testing.T, n *net.Net) {
	t.Helper()
	if !sameUnder(n.Under(), s.under) {
		t.Fatal("in flight", len(n.Under()), len(s.under))
	}
	for k, x := range s.nodes {
		if !sameView(n.View(k), x.View()) {
			t.Fatal("view of", k)
		}
	}
}

func TestNew(t *testing.T) {
	for _, many := range []int{-1, 0, 1, 9, 10, math.MinInt, math.MaxInt} {
		if n, err := net.New(api.Key{1}, many); !errors.Is(err, api.ErrRange) || n != nil {
			t.Error(many, err)
		}
	}
	for many := 2; many <= 8; many++ {
		shadowOf(t, api.Key{2}, many).like(t, netOf(t, api.Key{2}, many))
	}
}

func TestExample(t *testing.T) {
	n := netOf(t, api.Key{3}, 2)
	if given, err := n.Do(command(0, api.DoConnect, 1)); err != nil || given != nil || len(n.Under()) != 1 {
		t.Fatal(err)
	}
	n.Calm(1)
	if !slices.Equal(n.View(0).Linked, []int{1}) || !slices.Equal(n.View(1).Linked, []int{0}) || len(n.Under()) != 0 {
		t.Error("not linked")
	}
}

func command(k, kind, peer int) api.Pick {
	return api.Pick{Kind: api.PickCommand, Node: k, Command: api.Command{Kind: kind, Peer: peer}}
}

// picks makes picks of all kinds, most of them of use.
func picks(r *rand.Rand, many, under int, seen [][]byte) api.Pick {
	p := api.Pick{Kind: api.PickDeliver, At: r.Intn(max(1, under))}
	switch r.Intn(20) {
	case 0:
		p.Kind = api.PickDrop
	case 1:
		p.Kind = api.PickDouble
	case 2:
		p = api.Pick{Kind: api.PickForge, Node: r.Intn(many+1) - r.Intn(2), From: r.Intn(many+1) - r.Intn(2)}
		p.Bytes = make([]byte, r.Intn(100))
		r.Read(p.Bytes)
		if len(p.Bytes) > 0 {
			p.Bytes[0] = byte(r.Intn(5))
		}
		if len(seen) > 0 && r.Intn(2) == 0 {
			p.Bytes = bytes.Clone(seen[r.Intn(len(seen))])
			p.Bytes[r.Intn(len(p.Bytes))] ^= byte(r.Intn(2) * (1 << r.Intn(8)))
		}
	case 3:
		p = api.Pick{Kind: r.Intn(8) - 1, Node: r.Intn(12) - 2, At: r.Intn(50) - 5, From: r.Intn(10)}
	case 4, 5, 6, 7, 8, 9:
		p = command(r.Intn(many), 1+r.Intn(8), r.Intn(many+1))
		p.Command.Payload = make([]byte, r.Intn(10)*r.Intn(120))
		if p.Command.Kind == api.DoCreate && r.Intn(3) > 0 {
			p.Command.Kind = api.DoAdd
		}
	}
	return p
}

func TestPicks(t *testing.T) {
	for seed := range 3 {
		r := rand.New(rand.NewSource(int64(seed)))
		many := 2 + r.Intn(7)
		n, s := netOf(t, api.Key{byte(seed)}, many), shadowOf(t, api.Key{byte(seed)}, many)
		var seen [][]byte
		for range 500 {
			p := picks(r, many, len(s.under), seen)
			got, err := n.Do(p)
			want, wantErr := s.do(t, p)
			if !is(err, wantErr) || !sameGiven(got, want) {
				t.Fatal("pick", p.Kind, err, wantErr)
			}
			if r.Intn(100) == 0 {
				rounds := r.Intn(3)
				if !sameGiven(n.Calm(rounds), s.calm(t, rounds)) {
					t.Fatal("calm")
				}
			}
			for _, d := range s.under[max(0, len(s.under)-3):] {
				seen = append(seen, d.Bytes)
			}
			s.like(t, n)
		}
	}
}

func TestPicksOutOfRange(t *testing.T) {
	n, s := netOf(t, api.Key{4}, 3), shadowOf(t, api.Key{4}, 3)
	both := func(p api.Pick, want error) {
		t.Helper()
		given, err := n.Do(p)
		if !errors.Is(err, want) || given != nil {
			t.Error(p.Kind, err, want)
		}
		s.do(t, p)
		s.like(t, n)
	}
	for _, k := range []int{-1, 3, 8, math.MinInt, math.MaxInt} {
		both(command(k, api.DoTick, 0), api.ErrRange)
		both(api.Pick{Kind: api.PickForge, Node: k, Bytes: []byte{1}}, api.ErrRange)
		both(api.Pick{Kind: api.PickForge, Node: 1, From: k, Bytes: []byte{9}}, api.ErrRange)
	}
	both(command(0, api.DoTick, 0), nil)
	for _, kind := range []int{api.PickDeliver, api.PickDrop, api.PickDouble} {
		for _, at := range []int{0, -1, 5, math.MinInt, math.MaxInt} {
			both(api.Pick{Kind: kind, At: at}, api.ErrRange)
		}
	}
	for _, kind := range []int{0, -1, 6, 7, math.MinInt, math.MaxInt} {
		both(api.Pick{Kind: kind}, api.ErrForm)
		both(api.Pick{Kind: kind, Node: 77, At: 77}, api.ErrForm)
	}
	both(command(0, 99, 0), api.ErrForm)
	both(command(1, api.DoConnect, 2), nil) // all picks so far were counted: the same bytes go out
	if len(n.Under()) != 1 {
		t.Error("in flight")
	}
	both(api.Pick{Kind: api.PickDeliver, At: 1}, api.ErrRange)
	both(api.Pick{Kind: api.PickDouble, At: 0}, nil)
	both(api.Pick{Kind: api.PickDrop, At: 0}, nil)
	both(api.Pick{Kind: api.PickDeliver, At: 0}, nil)
	both(api.Pick{Kind: api.PickForge, Node: 1, From: 0, Bytes: nil}, api.ErrForm)
}

func TestViewsAndJumpsOfNobody(t *testing.T) {
	n := netOf(t, api.Key{5}, 2)
	for _, k := range []int{-1, 2, 8, math.MinInt, math.MaxInt} {
		if !sameView(n.View(k), node.View{}) || n.Jump(k, 0) {
			t.Error(k)
		}
	}
	if n.Jump(0, 3) {
		t.Error("no epoch")
	}
	n.Do(command(0, api.DoCreate, 0))
	if !n.Jump(0, 3) || n.Jump(0, 2) || n.View(0).Next != 3 || n.Jump(1, 3) {
		t.Error("jump")
	}
}

func TestNil(t *testing.T) {
	var n *net.Net
	for kind := range 8 {
		if given, err := n.Do(api.Pick{Kind: kind}); !errors.Is(err, api.ErrRange) || given != nil {
			t.Error(kind, err)
		}
	}
	if n.Calm(3) != nil || n.Under() != nil || n.Many() != 0 || n.Jump(0, 0) || !sameView(n.View(0), node.View{}) {
		t.Error("not nothing")
	}
}

func TestRounds(t *testing.T) {
	for _, rounds := range []int{-1, 0, math.MinInt, 1, 2, 63, 64, 65, 1000, math.MaxInt} {
		n, s := netOf(t, api.Key{6}, 3), shadowOf(t, api.Key{6}, 3)
		check := func(p api.Pick) {
			t.Helper()
			n.Do(p)
			s.do(t, p)
			s.like(t, n)
		}
		check(command(0, api.DoConnect, 1))
		if given := n.Calm(rounds); len(given) != 0 {
			t.Error("given", rounds)
		}
		s.calm(t, rounds)
		s.like(t, n)
		check(command(1, api.DoConnect, 2)) // its bytes hang on how many picks there were
		check(command(0, api.DoCreate, 0))
	}
}

func TestManyPicks(t *testing.T) {
	n, s := netOf(t, api.Key{10}, 2), shadowOf(t, api.Key{10}, 2)
	for range 1<<16 + 1<<8 + 3 {
		n.Do(api.Pick{})
		s.picks++
	}
	p := command(0, api.DoConnect, 1)
	n.Do(p)
	s.do(t, p)
	s.like(t, n)
}

// TestMostInFlight: what goes out beyond 4096 is lost.
func TestMostInFlight(t *testing.T) {
	n, s := netOf(t, api.Key{7}, 3), shadowOf(t, api.Key{7}, 3)
	both := func(p api.Pick) {
		t.Helper()
		_, err := n.Do(p)
		if _, want := s.do(t, p); !is(err, want) {
			t.Fatal(err, want)
		}
	}
	both(command(0, api.DoConnect, 1))
	both(command(0, api.DoConnect, 2))
	for range 4093 {
		both(api.Pick{Kind: api.PickDouble, At: 1})
	}
	if len(n.Under()) != 4095 {
		t.Fatal("in flight", len(n.Under()))
	}
	both(command(0, api.DoTick, 0)) // two more: one of them is lost
	s.like(t, n)
	both(api.Pick{Kind: api.PickDouble, At: 0})
	both(command(1, api.DoConnect, 2))
	s.like(t, n)
	if u := n.Under(); len(u) != 4096 || u[4095].To != 1 {
		t.Error("in flight", len(u))
	}
	both(api.Pick{Kind: api.PickDrop, At: 7})
	both(api.Pick{Kind: api.PickDeliver, At: 4094})
	s.like(t, n)
	n.Calm(1)
	s.calm(t, 1)
	s.like(t, n)
}

func TestArgumentsAndResultsStay(t *testing.T) {
	n, s := netOf(t, api.Key{8}, 2), shadowOf(t, api.Key{8}, 2)
	for _, p := range []api.Pick{command(0, api.DoConnect, 1), {Kind: api.PickDouble}} {
		n.Do(p)
		s.do(t, p)
	}
	u := n.Under()
	clear(u[0].Bytes)
	u[1] = net.Datagram{}
	s.like(t, n)
	calm := func() {
		n.Calm(2)
		s.calm(t, 2)
	}
	calm()
	for _, p := range []api.Pick{command(0, api.DoCreate, 0), command(0, api.DoAdd, 1), command(0, api.DoCommit, 0)} {
		n.Do(p)
		s.do(t, p)
		calm()
	}
	text := append([]byte("text"), make([]byte, 9)...)
	p := command(0, api.DoSend, 0)
	p.Command.Payload = text[:4]
	n.Do(p)
	s.do(t, p)
	if !bytes.Equal(text, append([]byte("text"), make([]byte, 9)...)) {
		t.Error("an argument was changed")
	}
	clear(text)
	forged := append(bytes.Clone(n.Under()[0].Bytes), 1, 2, 3)
	kept := bytes.Clone(forged)
	forge := api.Pick{Kind: api.PickForge, Node: 1, From: 0, Bytes: forged[:len(forged)-3]}
	given, err := n.Do(forge)
	s.do(t, forge)
	if err != nil || len(given) != 1 || string(given[0].Payload) != "text" || !bytes.Equal(forged, kept) {
		t.Error("given", err)
	}
	clear(forged)
	if string(given[0].Payload) != "text" {
		t.Error("a payload shares with an argument")
	}
	s.like(t, n)
}
