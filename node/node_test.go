package node_test

import (
	"bytes"
	"errors"
	"math"
	"slices"
	"testing"

	"burrow/api"
	"burrow/ladder"
	"burrow/member"
	"burrow/node"
	"burrow/noise"
	"burrow/packet"
)

func TestCard(t *testing.T) {
	for _, name := range []int{0, 7, 255} {
		s := secretsOf(3)
		p, err := node.Card(name, s)
		m, _ := member.New(name, s.Seed, s.First, s.Start)
		leaf, start := m.Card()
		if err != nil || p.Static != ladder.Public(s.Static) || p.Leaf.Name != name || p.Leaf.Key != leaf.Key || p.Leaf.Sign != leaf.Sign || !p.Leaf.Used || p.Start != start {
			t.Error("card", name, err)
		}
	}
	for _, name := range []int{-1, 256, math.MinInt, math.MaxInt} {
		if p, err := node.Card(name, secretsOf(3)); !errors.Is(err, api.ErrRange) || p.Leaf.Used || p.Static != (api.Key{}) || p.Start != (api.Key{}) {
			t.Error("card", name, err)
		}
	}
}

func TestNew(t *testing.T) {
	for many := 1; many <= 8; many++ {
		for i := range many {
			n := nodeOf(t, i, many)
			if v := n.View(); !sameView(v, node.View{Waiting: make([]int, many)}) {
				t.Errorf("%+v", v)
			}
		}
		for _, i := range []int{-1, many, 99, math.MinInt, math.MaxInt} {
			if n, err := node.New(i, secretsOf(0), peersOf(t, many)); !errors.Is(err, api.ErrRange) || n != nil {
				t.Error("name", i, err)
			}
		}
	}
	if n, err := node.New(0, secretsOf(0), nil); !errors.Is(err, api.ErrRange) || n != nil {
		t.Error("no peers", err)
	}
	if n, err := node.New(1, secretsOf(1), peersOf(t, 9)); !errors.Is(err, api.ErrRange) || n != nil {
		t.Error("nine", err)
	}
	if n, err := node.New(1, secretsOf(2), peersOf(t, 9)); !errors.Is(err, api.ErrRange) || n != nil {
		t.Error("nine, with other secrets", err)
	}
	for i, change := range []func(p *node.Peer){
		func(p *node.Peer) { p.Static[0]++ },
		func(p *node.Peer) { p.Start[31]++ },
		func(p *node.Peer) { p.Leaf.Used = false },
		func(p *node.Peer) { p.Leaf.Name = 2 },
		func(p *node.Peer) { p.Leaf.Name = 256 },
		func(p *node.Peer) { p.Leaf.Key[0]++ },
		func(p *node.Peer) { p.Leaf.Sign[0]++ },
		func(p *node.Peer) { p.Leaf.Parent[0]++ },
		func(p *node.Peer) { p.Leaf.Unmerged = []int{1} },
		func(p *node.Peer) { *p = node.Peer{} },
	} {
		peers := peersOf(t, 3)
		change(&peers[1])
		if n, err := node.New(1, secretsOf(1), peers); !errors.Is(err, api.ErrForm) || n != nil {
			t.Error("its own card", i, err)
		}
		if n, err := node.New(0, secretsOf(0), peers); err != nil || n == nil {
			t.Error("another one's card", i, err)
		}
	}
	peers := peersOf(t, 2)
	peers[0].Leaf.Unmerged = []int{}
	if _, err := node.New(0, secretsOf(0), peers); err != nil {
		t.Error("an empty list", err)
	}
}

func TestNil(t *testing.T) {
	var n *node.Node
	for kind := range 10 {
		if out, err := n.Step(api.Command{Kind: kind}, api.Key{}); !errors.Is(err, api.ErrState) || out != nil {
			t.Error("step", kind, err)
		}
		if out, err := n.Receive(kind, []byte{byte(kind)}, api.Key{}); !errors.Is(err, api.ErrState) || out != nil {
			t.Error("receive", kind, err)
		}
	}
	if !sameView(n.View(), node.View{}) || n.Jump(0) {
		t.Error("view, jump")
	}
}

func TestConnect(t *testing.T) {
	n := nodeOf(t, 1, 4)
	for _, i := range []int{-1, 1, 4, 99, math.MinInt, math.MaxInt} {
		notDone(t, n, api.Command{Kind: api.DoConnect, Peer: i}, api.ErrRange)
	}
	notDone(t, n, api.Command{Kind: api.DoConnect, Peer: 0}, api.ErrState)
	hands := noise.New(true, ladder.New(secretsOf(1).Static), ladder.Public(secretsOf(3).Static), []byte{1, 3})
	want, err := hands.Write(drawn(t, random(5), 0), nil)
	if err != nil {
		t.Fatal(err)
	}
	out := step(t, n, api.Command{Kind: api.DoConnect, Peer: 3}, random(5))
	if len(out) != 1 || out[0].Peer != 3 || !bytes.Equal(out[0].Bytes, append([]byte{1}, want...)) || out[0].From != 0 || out[0].Epoch != 0 {
		t.Fatal("the first datagram")
	}
	notDone(t, n, api.Command{Kind: api.DoConnect, Peer: 3}, api.ErrState)
	for range 2 {
		again := step(t, n, api.Command{Kind: api.DoTick}, random(6))
		if len(again) != 1 || again[0].Peer != 3 || !bytes.Equal(again[0].Bytes, out[0].Bytes) {
			t.Fatal("again")
		}
		clear(again[0].Bytes)
	}
	if v := n.View(); len(v.Linked) != 0 {
		t.Error("linked", v.Linked)
	}
	answer := noise.New(false, ladder.New(secretsOf(3).Static), ladder.Public(secretsOf(1).Static), []byte{1, 3})
	if _, err := answer.Read(out[0].Bytes[1:]); err != nil {
		t.Fatal(err)
	}
	second, err := answer.Write(random(30), nil)
	if err != nil {
		t.Fatal(err)
	}
	second = append([]byte{2}, second...)
	for i := range second {
		if i > 0 {
			bad := bytes.Clone(second)
			bad[i] ^= 1
			silent(t, notTaken(t, n, 3, bad, api.ErrAuth))
		}
	}
	silent(t, notTaken(t, n, 3, second[:48], api.ErrLen))
	silent(t, notTaken(t, n, 3, append(second[:1:1], make([]byte, 60)...), api.ErrRange))
	silent(t, notTaken(t, n, 2, second, api.ErrState))
	silent(t, receive(t, n, 3, second))
	if v := n.View(); !slices.Equal(v.Linked, []int{3}) {
		t.Error("linked", v.Linked)
	}
	silent(t, notTaken(t, n, 3, second, api.ErrState))
	notDone(t, n, api.Command{Kind: api.DoConnect, Peer: 3}, api.ErrState)
	silent(t, step(t, n, api.Command{Kind: api.DoTick}, random(6)))
}

func TestConnectToABadKey(t *testing.T) {
	peers := peersOf(t, 3)
	peers[2].Static = api.Key{}
	n, err := node.New(1, secretsOf(1), peers)
	if err != nil {
		t.Fatal(err)
	}
	notDone(t, n, api.Command{Kind: api.DoConnect, Peer: 2}, api.ErrRange)
	silent(t, step(t, n, api.Command{Kind: api.DoTick}, random(6)))
}

func TestAnswer(t *testing.T) {
	n := nodeOf(t, 1, 4)
	first := func(seed int) (*noise.Hands, []byte) {
		h := noise.New(true, ladder.New(secretsOf(0).Static), ladder.Public(secretsOf(1).Static), []byte{0, 1})
		b, err := h.Write(random(seed), nil)
		if err != nil {
			t.Fatal(err)
		}
		return h, append([]byte{1}, b...)
	}
	hands, b := first(40)
	for i := range b {
		if i > 0 {
			bad := bytes.Clone(b)
			bad[i] ^= 1
			silent(t, notTaken(t, n, 0, bad, api.ErrAuth))
		}
	}
	silent(t, notTaken(t, n, 0, b[:48], api.ErrLen))
	silent(t, notTaken(t, n, 0, append(b[:1:1], make([]byte, 60)...), api.ErrRange))
	silent(t, notTaken(t, n, 2, b, api.ErrState))
	silent(t, notTaken(t, n, 3, b[:1], api.ErrState))
	answer := noise.New(false, ladder.New(secretsOf(1).Static), ladder.Public(secretsOf(0).Static), []byte{0, 1})
	if _, err := answer.Read(b[1:]); err != nil {
		t.Fatal(err)
	}
	want, _ := answer.Write(drawn(t, random(41), 0), nil)
	handed := bytes.Clone(b)
	out, err := n.Receive(0, handed, random(41))
	clear(handed)
	if err != nil || len(out) != 1 || out[0].Peer != 0 || !bytes.Equal(out[0].Bytes, append([]byte{2}, want...)) {
		t.Fatal("the second datagram", err)
	}
	if v := n.View(); !slices.Equal(v.Linked, []int{0}) {
		t.Error("linked", v.Linked)
	}
	for range 2 {
		again := receive(t, n, 0, b)
		if len(again) != 1 || again[0].Peer != 0 || !bytes.Equal(again[0].Bytes, append([]byte{2}, want...)) {
			t.Fatal("again")
		}
		clear(again[0].Bytes)
	}
	if _, err := hands.Read(out[0].Bytes[1:]); err != nil {
		t.Error(err)
	}
	_, other := first(42)
	silent(t, notTaken(t, n, 0, other, api.ErrState))
	silent(t, notTaken(t, n, 0, b[:30], api.ErrState))
	silent(t, notTaken(t, n, 0, out[0].Bytes, api.ErrState))
	notDone(t, n, api.Command{Kind: api.DoConnect, Peer: 0}, api.ErrState)
}

func TestWrongDatagrams(t *testing.T) {
	n := nodeOf(t, 1, 3)
	for _, from := range []int{-1, 1, 3, 8, math.MinInt, math.MaxInt} {
		for _, b := range [][]byte{nil, {1}, {9}} {
			silent(t, notTaken(t, n, from, b, api.ErrRange))
		}
	}
	for _, linked := range []bool{false, true} {
		for _, b := range [][]byte{nil, {}, {0}, {4}, {255}, make([]byte, 100), append([]byte{4}, make([]byte, 100)...)} {
			silent(t, notTaken(t, n, 0, b, api.ErrForm))
		}
		if !linked {
			silent(t, notTaken(t, n, 0, []byte{3}, api.ErrState))
			silent(t, notTaken(t, n, 0, []byte{2}, api.ErrState))
			silent(t, notTaken(t, n, 0, []byte{1}, api.ErrLen))
			meet(t, n, 1, 0)
		}
	}
	silent(t, notTaken(t, n, 0, []byte{3}, api.ErrLen))
	silent(t, notTaken(t, n, 0, append([]byte{3}, make([]byte, 30)...), api.ErrAuth))
}

func TestKindsOfCommands(t *testing.T) {
	n := nodeOf(t, 1, 3)
	for _, kind := range []int{0, -1, 9, 100, math.MinInt, math.MaxInt} {
		notDone(t, n, api.Command{Kind: kind, Peer: 2}, api.ErrForm)
	}
	for _, kind := range []int{api.DoAdd, api.DoUpdate, api.DoRemove, api.DoCommit, api.DoSend} {
		notDone(t, n, api.Command{Kind: kind, Peer: 2, Payload: make([]byte, 2000)}, api.ErrState)
	}
	for _, i := range []int{-1, 1, 3, math.MaxInt} {
		notDone(t, n, api.Command{Kind: api.DoAdd, Peer: i}, api.ErrRange)
	}
	silent(t, step(t, n, api.Command{Kind: api.DoTick}, random(1)))
}

// TestCommands: what the commands make is what the member makes with the same keys.
func TestCommands(t *testing.T) {
	n, m, box := nodeOf(t, 1, 4), memberOf(t, 1), packet.New()
	f0, _ := meet(t, n, 1, 0)
	f2, _ := meet(t, n, 1, 2)
	silent(t, step(t, n, api.Command{Kind: api.DoCreate}, random(50)))
	if err := m.Create(api.Sum(drawn(t, random(50), 0)), api.Sum(drawn(t, random(50), 1))); err != nil {
		t.Fatal(err)
	}
	is(t, n, m)
	enter(t, box, m)
	notDone(t, n, api.Command{Kind: api.DoCreate}, api.ErrState)
	cards := peersOf(t, 4)
	for _, i := range []int{2, 0} { // alone in the group, it sends to nobody
		silent(t, step(t, n, api.Command{Kind: api.DoAdd, Peer: i}, random(51)))
		if _, err := m.Add(cards[i].Leaf, cards[i].Start); err != nil {
			t.Fatal(err)
		}
		notDone(t, n, api.Command{Kind: api.DoAdd, Peer: i}, api.ErrReplay)
	}
	out := step(t, n, api.Command{Kind: api.DoCommit}, random(52))
	_, welcomes := shadow(t, m, random(52))
	if len(out) != 2 || len(welcomes) != 2 {
		t.Fatal("two welcomes", len(out))
	}
	f2.gets(t, out[:1], welcome, 0, welcomeBytes(t, welcomes[0]))
	f0.gets(t, out[1:], welcome, 0, welcomeBytes(t, welcomes[1]))
	is(t, n, m)
	enter(t, box, m)
	if v := n.View(); !slices.Equal(v.Epochs, []int{0, 1}) || !slices.Equal(v.Waiting, []int{1, 0, 1, 0}) {
		t.Errorf("%+v", v)
	}
	both := func(out []api.Out, kind, number int, item []byte) {
		t.Helper()
		if len(out) != 2 {
			t.Fatal("to both", len(out))
		}
		f0.gets(t, out[:1], kind, number, item)
		f2.gets(t, out[1:], kind, number, item)
		is(t, n, m)
	}
	out = step(t, n, api.Command{Kind: api.DoUpdate}, random(53))
	p, err := m.Update(drawn(t, random(53), 0))
	both(out, proposal, 1, proposalBytes(t, p, err))
	out = step(t, n, api.Command{Kind: api.DoAdd, Peer: 3}, random(54))
	p, err = m.Add(cards[3].Leaf, cards[3].Start)
	both(out, proposal, 2, proposalBytes(t, p, err))
	out = step(t, n, api.Command{Kind: api.DoRemove, Peer: 2}, random(55))
	p, err = m.Remove(2)
	both(out, proposal, 3, proposalBytes(t, p, err))
	notDone(t, n, api.Command{Kind: api.DoRemove, Peer: 3}, api.ErrMember)
	notDone(t, n, api.Command{Kind: api.DoRemove, Peer: -1}, api.ErrMember)
	notDone(t, n, api.Command{Kind: api.DoRemove, Peer: 300}, api.ErrMember)
	out = step(t, n, api.Command{Kind: api.DoSend, Payload: []byte("hello")}, random(56))
	q, err := box.Seal([]byte("hello"))
	both(out, parcel, 4, packetBytes(t, q, err))
	if n.View().Next != 1 {
		t.Error("next", n.View().Next)
	}
	notDone(t, n, api.Command{Kind: api.DoSend, Payload: make([]byte, 1025)}, api.ErrLen)
	out = step(t, n, api.Command{Kind: api.DoCommit}, random(57))
	c, welcomes := shadow(t, m, random(57))
	both(out, commit, 5, commitBytes(t, c))
	enter(t, box, m)
	v := n.View()
	if len(welcomes) != 1 || !slices.Equal(v.Waiting, []int{6, 0, 6, 1}) || v.Next != 0 || !slices.Equal(v.Epochs, []int{0, 1, 2}) {
		t.Fatalf("%+v", v)
	}
	f3, rest := meet(t, n, 1, 3) // no link so far: its welcome waited
	f3.gets(t, rest, welcome, 0, welcomeBytes(t, welcomes[0]))
}

// shadow is a commit with the keys of a draw.
func shadow(t *testing.T, m *member.Member, draw api.Key) (api.Commit, []api.Welcome) {
	t.Helper()
	var keys []api.Key
	for k := range 128 {
		keys = append(keys, drawn(t, draw, 2+k))
	}
	c, w, err := m.Commit(drawn(t, draw, 0), drawn(t, draw, 1), keys)
	if err != nil {
		t.Fatal(err)
	}
	return c, w
}

// TestJump: the numbers of an epoch can be used up.
func TestJump(t *testing.T) {
	n := nodeOf(t, 0, 2)
	if n.Jump(0) || n.Jump(3) {
		t.Error("no epoch")
	}
	step(t, n, api.Command{Kind: api.DoCreate}, random(60))
	if !n.Jump(5) || n.Jump(4) || n.Jump(1<<32) || n.View().Next != 5 {
		t.Error("jump", n.View().Next)
	}
	if !n.Jump(1<<32-1) || n.View().Next != 1<<32-1 {
		t.Error("jump", n.View().Next)
	}
	notDone(t, n, api.Command{Kind: api.DoSend, Payload: []byte{1}}, api.ErrUsedUp)
	step(t, n, api.Command{Kind: api.DoCommit}, random(61))
	step(t, n, api.Command{Kind: api.DoSend, Payload: []byte{1}}, random(62))
	if n.View().Next != 1 {
		t.Error("the next epoch begins anew", n.View().Next)
	}
}
