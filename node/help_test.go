package node_test

import (
	"bytes"
	"encoding/binary"
	"errors"
	"math/rand"
	"slices"
	"testing"

	"burrow/api"
	"burrow/kdf"
	"burrow/ladder"
	"burrow/link"
	"burrow/member"
	"burrow/node"
	"burrow/noise"
	"burrow/packet"
	"burrow/wire"
)

// The kinds of messages of a link.
const (
	proposal = 1
	commit   = 2
	welcome  = 3
	parcel   = 4
	receipt  = 5
)

func random(seed int) (k api.Key) {
	rand.New(rand.NewSource(int64(seed))).Read(k[:])
	return k
}

func secretsOf(i int) node.Secrets {
	return node.Secrets{Static: random(4*i + 10), Seed: random(4*i + 11), First: random(4*i + 12), Start: random(4*i + 13)}
}

func peersOf(t *testing.T, many int) []node.Peer {
	t.Helper()
	var out []node.Peer
	for i := range many {
		p, err := node.Card(i, secretsOf(i))
		if err != nil {
			t.Fatal(err)
		}
		out = append(out, p)
	}
	return out
}

func nodeOf(t *testing.T, i, many int) *node.Node {
	t.Helper()
	n, err := node.New(i, secretsOf(i), peersOf(t, many))
	if err != nil {
		t.Fatal(err)
	}
	return n
}

// memberOf is the member that node i holds.
func memberOf(t *testing.T, i int) *member.Member {
	t.Helper()
	s := secretsOf(i)
	m, err := member.New(i, s.Seed, s.First, s.Start)
	if err != nil {
		t.Fatal(err)
	}
	return m
}

// drawn is the k-th key of a draw.
func drawn(t *testing.T, draw api.Key, k int) api.Key {
	t.Helper()
	b, err := kdf.Label(api.Sum(draw), "draw", []byte{byte(k >> 8), byte(k)}, 32)
	if err != nil {
		t.Fatal(err)
	}
	return api.Key(b)
}

func sameMember(a, b member.View) bool {
	return slices.Equal(a.Names, b.Names) && a.In == b.In && a.Wiped == b.Wiped && a.Group == b.Group && a.Epoch == b.Epoch && a.Leaf == b.Leaf &&
		a.Tree == b.Tree && a.Confirmed == b.Confirmed && a.Base == b.Base && a.Export == b.Export && a.Cached == b.Cached && a.Buffered == b.Buffered
}

func sameView(a, b node.View) bool {
	return sameMember(a.Member, b.Member) && slices.Equal(a.Linked, b.Linked) && slices.Equal(a.Waiting, b.Waiting) && slices.Equal(a.Epochs, b.Epochs) && a.Next == b.Next
}

// step performs a command that is done.
func step(t *testing.T, n *node.Node, c api.Command, draw api.Key) []api.Out {
	t.Helper()
	out, err := n.Step(c, draw)
	if err != nil {
		t.Fatal("step", c.Kind, err)
	}
	return out
}

// notDone checks that a command is refused, and changes nothing.
func notDone(t *testing.T, n *node.Node, c api.Command, want error) {
	t.Helper()
	before := n.View()
	if out, err := n.Step(c, random(7)); !errors.Is(err, want) || out != nil {
		t.Error("command", c.Kind, c.Peer, err, want)
	}
	if !sameView(n.View(), before) {
		t.Error("command", c.Kind, "changed something")
	}
}

// receive hands over a datagram that is taken.
func receive(t *testing.T, n *node.Node, from int, b []byte) []api.Out {
	t.Helper()
	out, err := n.Receive(from, b, random(8))
	if err != nil {
		t.Fatal("receive", from, err)
	}
	return out
}

// notTaken checks that a datagram is refused, and changes nothing; it returns what goes out.
func notTaken(t *testing.T, n *node.Node, from int, b []byte, want error) []api.Out {
	t.Helper()
	before := n.View()
	out, err := n.Receive(from, b, random(9))
	if !errors.Is(err, want) {
		t.Error("datagram from", from, err, want)
	}
	if !sameView(n.View(), before) {
		t.Error("a datagram from", from, "changed something")
	}
	return out
}

// silent checks that nothing goes out beside an error.
func silent(t *testing.T, out []api.Out) {
	t.Helper()
	if len(out) > 0 {
		t.Error("something went out", len(out))
	}
}

// far is a peer of a node, played by the test.
type far struct {
	me, it int
	n      *node.Node
	link   *link.Link
	next   int
}

// meet links a node to a peer that the test plays, and returns what waited.
func meet(t *testing.T, n *node.Node, it, me int) (*far, []api.Out) {
	t.Helper()
	f := &far{me: me, it: it, n: n}
	own, peer := ladder.New(secretsOf(me).Static), ladder.Public(secretsOf(it).Static)
	var rest []api.Out
	var hands *noise.Hands
	if it < me {
		out := step(t, n, api.Command{Kind: api.DoConnect, Peer: me}, random(20))
		hands = noise.New(false, own, peer, []byte{byte(it), byte(me)})
		if _, err := hands.Read(out[0].Bytes[1:]); err != nil {
			t.Fatal(err)
		}
		b, err := hands.Write(random(21), nil)
		if err != nil {
			t.Fatal(err)
		}
		rest = receive(t, n, me, append([]byte{2}, b...))
	} else {
		hands = noise.New(true, own, peer, []byte{byte(me), byte(it)})
		b, err := hands.Write(random(22), nil)
		if err != nil {
			t.Fatal(err)
		}
		out := receive(t, n, me, append([]byte{1}, b...))
		if _, err := hands.Read(out[0].Bytes[1:]); err != nil {
			t.Fatal(err)
		}
		rest = out[1:]
	}
	send, get, err := hands.Keys()
	if err != nil {
		t.Fatal(err)
	}
	f.link = link.New(send, get)
	return f, rest
}

// wrap is a datagram of the link with any payload.
func (f *far) wrap(t *testing.T, payload []byte) []byte {
	t.Helper()
	b, err := f.link.Send(payload)
	if err != nil {
		t.Fatal(err)
	}
	return append([]byte{3}, b...)
}

// message is a datagram with a message of any kind.
func (f *far) message(t *testing.T, kind, number int, item []byte) []byte {
	t.Helper()
	b := binary.BigEndian.AppendUint32([]byte{byte(kind)}, uint32(number))
	return f.wrap(t, append(b, item...))
}

// unwrap opens what went out to the peer.
func (f *far) unwrap(t *testing.T, o api.Out) (kind, number int, item []byte) {
	t.Helper()
	if o.Peer != f.me || o.From != 0 || o.Epoch != 0 || len(o.Bytes) == 0 || o.Bytes[0] != 3 {
		t.Fatal("not a message for", f.me, o.Peer)
	}
	b, err := f.link.Take(o.Bytes[1:])
	if err != nil || len(b) < 5 {
		t.Fatal("unwrap", err)
	}
	return int(b[0]), int(binary.BigEndian.Uint32(b[1:])), b[5:]
}

// gets checks that what went out is one message.
func (f *far) gets(t *testing.T, out []api.Out, kind, number int, item []byte) {
	t.Helper()
	if len(out) != 1 {
		t.Fatal("how much goes out", len(out))
	}
	k, n, b := f.unwrap(t, out[0])
	if k != kind || n != number || !bytes.Equal(b, item) {
		t.Fatal("message", k, n, "wanted", kind, number)
	}
}

// gives hands a message to the node, which is taken and acknowledged; it returns what else goes out.
func (f *far) gives(t *testing.T, kind int, item []byte) []api.Out {
	t.Helper()
	out := receive(t, f.n, f.me, f.message(t, kind, f.next, item))
	f.acknowledged(t, out, f.next)
	f.next++
	return out[1:]
}

// fails hands a message to the node, which is refused, but acknowledged.
func (f *far) fails(t *testing.T, kind int, item []byte, want error) {
	t.Helper()
	out := notTaken(t, f.n, f.me, f.message(t, kind, f.next, item), want)
	f.acknowledged(t, out, f.next)
	silent(t, out[1:])
	f.next++
}

func (f *far) acknowledged(t *testing.T, out []api.Out, number int) {
	t.Helper()
	if len(out) == 0 {
		t.Fatal("no acknowledgement")
	}
	f.gets(t, out[:1], receipt, number, nil)
}

func proposalBytes(t *testing.T, p api.Proposal, err error) []byte {
	t.Helper()
	b, err2 := wire.PutProposal(p)
	if err != nil || err2 != nil {
		t.Fatal(err, err2)
	}
	return b
}

func commitBytes(t *testing.T, c api.Commit) []byte {
	t.Helper()
	b, err := wire.PutCommit(c)
	if err != nil {
		t.Fatal(err)
	}
	return b
}

func welcomeBytes(t *testing.T, w api.Welcome) []byte {
	t.Helper()
	b, err := wire.PutWelcome(w)
	if err != nil {
		t.Fatal(err)
	}
	return b
}

func packetBytes(t *testing.T, p api.Packet, err error) []byte {
	t.Helper()
	b, err2 := wire.PutPacket(p)
	if err != nil || err2 != nil {
		t.Fatal(err, err2)
	}
	return b
}

// enter lets a box follow a member.
func enter(t *testing.T, b *packet.Box, m *member.Member) {
	t.Helper()
	for _, p := range m.Passed() {
		if err := b.Enter(p.Group, p.Epoch, p.Packets, p.Leaves, p.Leaf); err != nil {
			t.Fatal(err)
		}
	}
}

// is checks the member's part of a View.
func is(t *testing.T, n *node.Node, m *member.Member) {
	t.Helper()
	if !sameMember(n.View().Member, m.View()) {
		t.Fatalf("%+v\n%+v", n.View().Member, m.View())
	}
}

func takeWelcome(b []byte) (api.Welcome, error) { return wire.TakeWelcome(b) }
