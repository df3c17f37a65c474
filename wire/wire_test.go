package wire_test

import (
	"bytes"
	"encoding/binary"
	"errors"
	"math"
	"math/rand"
	"reflect"
	"testing"

	"burrow/api"
	"burrow/wire"
)

// join puts bytes, keys and the like one after another.
func join(parts ...any) []byte {
	var out []byte
	for _, p := range parts {
		switch x := p.(type) {
		case int: // a byte
			out = append(out, byte(x))
		case uint32:
			out = binary.BigEndian.AppendUint32(out, x)
		case string: // a byte string
			out = binary.BigEndian.AppendUint16(out, uint16(len(x)))
			out = append(out, x...)
		case []byte:
			out = append(out, x...)
		case api.Key:
			out = append(out, x[:]...)
		case api.Sum:
			out = append(out, x[:]...)
		case api.Wide:
			out = append(out, x[:]...)
		default:
			panic("join")
		}
	}
	return out
}

func nodeBytes(n api.Node) []byte {
	used := 0
	if n.Used {
		used = 1
	}
	out := join(used, n.Name, n.Key, n.Sign, n.Parent, len(n.Unmerged))
	for _, u := range n.Unmerged {
		out = append(out, byte(u))
	}
	return out
}

func treeBytes(t api.Tree) []byte {
	out := join(len(t))
	for _, n := range t {
		out = append(out, nodeBytes(n)...)
	}
	return out
}

func proposalBytes(p api.Proposal) []byte {
	out := join(p.Group, uint32(p.Epoch), p.From, p.Base, p.Kind)
	switch p.Kind {
	case api.Add:
		out = append(out, join(nodeBytes(p.Leaf), p.Start)...)
	case api.Update:
		out = append(out, nodeBytes(p.Leaf)...)
	case api.Remove:
		out = append(out, byte(p.At))
	}
	return join(out, p.Sig)
}

func commitBytes(c api.Commit) []byte {
	out := join(c.Group, uint32(c.Epoch), c.From, c.Base, len(c.Proposals))
	for _, p := range c.Proposals {
		out = append(out, proposalBytes(p)...)
	}
	out = join(out, nodeBytes(c.Path.Leaf), len(c.Path.Steps))
	for _, s := range c.Path.Steps {
		out = join(out, s.Key, len(s.Sealed))
		for _, b := range s.Sealed {
			out = join(out, string(b))
		}
	}
	return join(out, c.Tag, c.Sig)
}

func infoBytes(x api.Info) []byte {
	return join(x.Group, uint32(x.Epoch), treeBytes(x.Nodes), x.Confirm, x.Tag, x.From, x.Sig)
}

func welcomeBytes(w api.Welcome) []byte {
	return join(w.Name, string(w.Sealed), string(w.Info))
}

func packetBytes(p api.Packet) []byte {
	return join(p.Group, uint32(p.Epoch), p.From, uint32(p.Number), string(p.Sealed))
}

// source makes values of all kinds; a list of nothing is nil, as what is decoded may be compared then.
type source struct{ *rand.Rand }

func (s source) key() (k api.Key) {
	s.Read(k[:])
	return k
}

func (s source) wide() (w api.Wide) {
	s.Read(w[:])
	return w
}

func (s source) text(most int) []byte {
	n := s.Intn(most + 1)
	if n == 0 {
		return nil
	}
	b := make([]byte, n)
	s.Read(b)
	return b
}

// large is a number of four bytes, the edges among them.
func (s source) large() int {
	return []int{0, 1, 255, 256, 1 << 16, 1<<32 - 1, s.Intn(1 << 32)}[s.Intn(7)]
}

func (s source) node() api.Node {
	if s.Intn(4) == 0 {
		return api.Node{}
	}
	n := api.Node{Used: true, Name: s.Intn(256), Key: s.key(), Sign: s.key(), Parent: api.Sum(s.key())}
	share := s.Intn(3)
	for u := range 32 {
		if s.Intn(2) < share {
			n.Unmerged = append(n.Unmerged, u)
		}
	}
	return n
}

func (s source) tree() api.Tree {
	t := make(api.Tree, 2<<s.Intn(6)-1)
	for i := range t {
		t[i] = s.node()
	}
	return t
}

func (s source) proposal(kind int) api.Proposal {
	p := api.Proposal{Group: api.Sum(s.key()), Epoch: s.large(), From: s.Intn(32), Base: api.Sum(s.key()), Kind: kind, Sig: s.wide()}
	switch kind {
	case api.Add:
		p.Leaf, p.Start = s.node(), s.key()
	case api.Update:
		p.Leaf = s.node()
	case api.Remove:
		p.At = s.Intn(32)
	}
	return p
}

func (s source) commit() api.Commit {
	c := api.Commit{Group: api.Sum(s.key()), Epoch: s.large(), From: s.Intn(32), Base: api.Sum(s.key()), Tag: api.Sum(s.key()), Sig: s.wide()}
	for range s.Intn(5) {
		c.Proposals = append(c.Proposals, s.proposal(1+s.Intn(3)))
	}
	c.Path.Leaf = s.node()
	for range s.Intn(6) {
		step := api.Step{Key: s.key()}
		for range s.Intn(5) {
			step.Sealed = append(step.Sealed, s.text(100))
		}
		c.Path.Steps = append(c.Path.Steps, step)
	}
	return c
}

func (s source) info() api.Info {
	return api.Info{Group: api.Sum(s.key()), Epoch: s.large(), Nodes: s.tree(), Confirm: api.Sum(s.key()), Tag: api.Sum(s.key()), From: s.Intn(32), Sig: s.wide()}
}

func (s source) welcome() api.Welcome {
	return api.Welcome{Name: s.Intn(256), Sealed: s.text(300), Info: s.text(300)}
}

func (s source) packet() api.Packet {
	return api.Packet{Group: api.Sum(s.key()), Epoch: s.large(), From: s.Intn(32), Number: s.large(), Sealed: s.text(300)}
}

func sourceOf(seed int64) source { return source{rand.New(rand.NewSource(seed))} }

// plain makes empty lists nil: both mean the same.
func plain(v reflect.Value) {
	switch v.Kind() {
	case reflect.Slice:
		if v.Len() == 0 {
			v.Set(reflect.Zero(v.Type()))
		}
		for i := range v.Len() {
			plain(v.Index(i))
		}
	case reflect.Struct:
		for i := range v.NumField() {
			plain(v.Field(i))
		}
	}
}

// kind is a kind of message: how it is made, written by hand, written and read.
type kind[T any] struct {
	name  string
	make  func(source) T
	bytes func(T) []byte
	put   func(T) ([]byte, error)
	take  func([]byte) (T, error)
}

func (k kind[T]) same(a, b T) bool {
	plain(reflect.ValueOf(&a).Elem())
	plain(reflect.ValueOf(&b).Elem())
	return reflect.DeepEqual(a, b)
}

// good checks that x has these bytes, and that these are x.
func (k kind[T]) good(t *testing.T, x T) {
	t.Helper()
	want := k.bytes(x)
	got, err := k.put(x)
	if err != nil || !bytes.Equal(got, want) {
		t.Fatal(k.name, "put", err)
	}
	back, err := k.take(want)
	if err != nil || !k.same(back, x) {
		t.Fatal(k.name, "take", err)
	}
}

// refused checks that x can't be written.
func (k kind[T]) refused(t *testing.T, what string, x T) {
	t.Helper()
	if b, err := k.put(x); !errors.Is(err, api.ErrForm) || b != nil {
		t.Error(k.name, "put", what, err)
	}
}

// notBytes checks that b can't be read.
func (k kind[T]) notBytes(t *testing.T, what string, b []byte) {
	t.Helper()
	var zero T
	if x, err := k.take(b); !errors.Is(err, api.ErrForm) || !reflect.DeepEqual(x, zero) {
		t.Error(k.name, "take", what, err)
	}
}

// check runs what holds for all kinds.
func (k kind[T]) check(t *testing.T) {
	s := sourceOf(1)
	for i := range 60 {
		x := k.make(s)
		k.good(t, x)
		b := k.bytes(x)
		if i < 10 {
			for n := range b {
				k.notBytes(t, "cut", b[:n])
			}
		}
		k.notBytes(t, "longer", append(bytes.Clone(b), 0))
		for range 100 {
			c := bytes.Clone(b)
			for range 1 + s.Intn(2) {
				c[s.Intn(len(c))] = []byte{0, 1, 2, 31, 32, 255, byte(s.Intn(256))}[s.Intn(7)]
			}
			k.eitherWay(t, c)
		}
	}
	k.notBytes(t, "nothing", nil)
	k.stays(t, s)
}

// eitherWay checks that bytes are refused, or are those of what they are read as.
func (k kind[T]) eitherWay(t *testing.T, b []byte) {
	t.Helper()
	x, err := k.take(b)
	if err != nil {
		k.notBytes(t, "changed", b)
		return
	}
	if got, err := k.put(x); err != nil || !bytes.Equal(got, b) {
		t.Fatal(k.name, "other bytes than were read", err)
	}
}

// stays checks that nothing is changed, and nothing shared.
func (k kind[T]) stays(t *testing.T, s source) {
	for range 20 {
		x := k.make(s)
		b := append(k.bytes(x), s.text(50)...)
		kept := bytes.Clone(b)
		n := len(k.bytes(x))
		y, err := k.take(b[:n])
		if err != nil || !bytes.Equal(b, kept) {
			t.Error(k.name, "bytes were changed")
		}
		clear(b)
		if !k.same(x, y) {
			t.Error(k.name, "what was read shares with the bytes")
		}
		one, _ := k.put(x)
		clear(one)
		if two, _ := k.put(x); !bytes.Equal(two, kept[:n]) {
			t.Error(k.name, "what was written shares with the message")
		}
		k.apart(t, kept[:n])
	}
}

// apart checks that no two lists of what was read share memory.
func (k kind[T]) apart(t *testing.T, b []byte) {
	var lists func(v reflect.Value)
	lists = func(v reflect.Value) {
		switch v.Kind() {
		case reflect.Slice:
			for i := range v.Len() {
				lists(v.Index(i))
			}
			if v.Type() == reflect.TypeOf([]byte{}) {
				c := v.Bytes()
				c = c[:cap(c)]
				for i := range c {
					if c[i] == 0xee {
						t.Error(k.name, "two lists share")
						return
					}
					c[i] = 0xee
				}
			}
		case reflect.Struct:
			for i := range v.NumField() {
				lists(v.Field(i))
			}
		}
	}
	b = bytes.ReplaceAll(b, []byte{0xee}, []byte{0xed})
	x, err := k.take(b)
	if err == nil {
		lists(reflect.ValueOf(&x).Elem())
	}
}

func trees() kind[api.Tree] {
	return kind[api.Tree]{"tree", source.tree, treeBytes, wire.PutTree, wire.TakeTree}
}

func proposals() kind[api.Proposal] {
	return kind[api.Proposal]{"proposal", func(s source) api.Proposal { return s.proposal(1 + s.Intn(3)) }, proposalBytes, wire.PutProposal, wire.TakeProposal}
}

func commits() kind[api.Commit] {
	return kind[api.Commit]{"commit", source.commit, commitBytes, wire.PutCommit, wire.TakeCommit}
}

func infos() kind[api.Info] {
	return kind[api.Info]{"info", source.info, infoBytes, wire.PutInfo, wire.TakeInfo}
}

func welcomes() kind[api.Welcome] {
	return kind[api.Welcome]{"welcome", source.welcome, welcomeBytes, wire.PutWelcome, wire.TakeWelcome}
}

func packets() kind[api.Packet] {
	return kind[api.Packet]{"packet", source.packet, packetBytes, wire.PutPacket, wire.TakePacket}
}

func TestAllKinds(t *testing.T) {
	trees().check(t)
	proposals().check(t)
	commits().check(t)
	infos().check(t)
	welcomes().check(t)
	packets().check(t)
}

func TestZeroPacket(t *testing.T) {
	b, err := wire.PutPacket(api.Packet{})
	if err != nil || !bytes.Equal(b, make([]byte, 43)) {
		t.Error(b, err)
	}
}

func TestNodes(t *testing.T) {
	s := sourceOf(2)
	for range 200 {
		n := s.node()
		if b, err := wire.PutNode(n); err != nil || !bytes.Equal(b, nodeBytes(n)) {
			t.Fatal(n, err)
		}
	}
	all := api.Node{Used: true, Name: 255}
	for u := range 32 {
		all.Unmerged = append(all.Unmerged, u)
	}
	if b, err := wire.PutNode(all); err != nil || !bytes.Equal(b, nodeBytes(all)) {
		t.Error("all leaves", err)
	}
	if b, err := wire.PutNode(api.Node{Unmerged: []int{}}); err != nil || !bytes.Equal(b, make([]byte, 99)) {
		t.Error("an empty list", err)
	}
}

// wrongNodes are nodes that can't be written.
func wrongNodes() []api.Node {
	one := func(name int, unmerged ...int) api.Node { return api.Node{Used: true, Name: name, Unmerged: unmerged} }
	var many []int
	for u := range 33 {
		many = append(many, u)
	}
	return []api.Node{
		{Name: 1}, {Key: api.Key{1}}, {Key: api.Key{31: 1}}, {Sign: api.Key{1}}, {Parent: api.Sum{1}}, {Unmerged: []int{0}},
		one(-1), one(256), one(math.MinInt), one(math.MaxInt), one(1 << 32), one(1 << 8 << 32),
		one(0, -1), one(0, 32), one(0, 0, 0), one(0, 1, 0), one(0, 1, 2, 2), one(0, 3, 1, 2), one(0, 256), one(0, 5, 1<<32),
		one(0, 31, 32), one(0, math.MinInt, 3), one(0, many...), one(0, make([]int, 300)...),
	}
}

func TestWrongNodes(t *testing.T) {
	s := sourceOf(3)
	for i, n := range wrongNodes() {
		if b, err := wire.PutNode(n); !errors.Is(err, api.ErrForm) || b != nil {
			t.Error("node", i, err)
		}
		trees().refused(t, "node", api.Tree{n})
		trees().refused(t, "last node", api.Tree{{}, {}, n})
		p := s.proposal(api.Add)
		p.Leaf = n
		proposals().refused(t, "leaf of an Add", p)
		p = s.proposal(api.Update)
		p.Leaf = n
		proposals().refused(t, "leaf of an Update", p)
		c := s.commit()
		c.Path.Leaf = n
		commits().refused(t, "leaf", c)
		x := s.info()
		x.Nodes[s.Intn(len(x.Nodes))] = n
		infos().refused(t, "node", x)
	}
}

func TestWrongNodeBytes(t *testing.T) {
	for at := 1; at < 98; at++ {
		b := join(1, make([]byte, 99))
		b[1+at] = 1
		trees().notBytes(t, "an unused node that isn't zero", b)
	}
	trees().notBytes(t, "an unused node with a leaf", join(1, make([]byte, 98), 1, 0))
	for _, list := range [][]byte{{1, 32}, {1, 255}, {2, 0, 0}, {2, 1, 0}, {3, 1, 3, 2}} {
		trees().notBytes(t, "unmerged", join(1, 1, make([]byte, 97), list))
	}
	trees().notBytes(t, "used is 2", join(1, 2, make([]byte, 98)))
	trees().notBytes(t, "used is 255", join(1, 255, make([]byte, 98)))
}

func TestTreeSizes(t *testing.T) {
	for n := range 130 {
		tree := make(api.Tree, n)
		switch n {
		case 1, 3, 7, 15, 31, 63:
			trees().good(t, tree)
		default:
			trees().refused(t, "size", tree)
			infos().refused(t, "size", api.Info{Nodes: tree})
			trees().notBytes(t, "size", treeBytes(tree))
			infos().notBytes(t, "size", infoBytes(api.Info{Nodes: tree}))
		}
	}
	for _, n := range []int{255, 256, 257, 259, 319, 1 << 16} {
		trees().refused(t, "size", make(api.Tree, n))
	}
}

// outside are numbers that aren't between 0 and a limit.
func outside(limit int) []int {
	return []int{-1, limit + 1, math.MinInt, math.MaxInt, -limit - 1, limit + 1<<40, limit + 1<<32}
}

func TestNumbersOutOfRange(t *testing.T) {
	for _, n := range outside(31) {
		proposals().refused(t, "from", api.Proposal{Kind: api.Remove, From: n})
		proposals().refused(t, "at", api.Proposal{Kind: api.Remove, At: n})
		commits().refused(t, "from", api.Commit{From: n})
		infos().refused(t, "from", api.Info{Nodes: api.Tree{{}}, From: n})
		packets().refused(t, "from", api.Packet{From: n})
	}
	for _, n := range outside(1<<32 - 1) {
		proposals().refused(t, "epoch", api.Proposal{Kind: api.Remove, Epoch: n})
		commits().refused(t, "epoch", api.Commit{Epoch: n})
		infos().refused(t, "epoch", api.Info{Nodes: api.Tree{{}}, Epoch: n})
		packets().refused(t, "epoch", api.Packet{Epoch: n})
		packets().refused(t, "number", api.Packet{Number: n})
	}
	for _, n := range outside(255) {
		welcomes().refused(t, "name", api.Welcome{Name: n})
	}
	for _, n := range append(outside(3), 0, 256+1) {
		proposals().refused(t, "kind", api.Proposal{Kind: n})
	}
	for _, n := range []int{0, 31} {
		proposals().good(t, api.Proposal{Kind: api.Remove, From: n, At: n})
		commits().good(t, api.Commit{From: n})
		infos().good(t, api.Info{Nodes: api.Tree{{}}, From: n})
		packets().good(t, api.Packet{From: n})
	}
	for _, n := range []int{0, 1<<32 - 1} {
		packets().good(t, api.Packet{Number: n, Epoch: n})
		commits().good(t, api.Commit{Epoch: n})
		proposals().good(t, api.Proposal{Kind: api.Remove, Epoch: n})
		infos().good(t, api.Info{Nodes: api.Tree{{}}, Epoch: n})
	}
	welcomes().good(t, api.Welcome{Name: 255})
}

func TestNumberBytesOutOfRange(t *testing.T) {
	for _, n := range []int{32, 33, 64, 128, 255} {
		proposals().notBytes(t, "from", proposalBytes(api.Proposal{Kind: api.Remove, From: n}))
		proposals().notBytes(t, "at", proposalBytes(api.Proposal{Kind: api.Remove, At: n}))
		commits().notBytes(t, "from", commitBytes(api.Commit{From: n}))
		infos().notBytes(t, "from", infoBytes(api.Info{Nodes: api.Tree{{}}, From: n}))
		packets().notBytes(t, "from", packetBytes(api.Packet{From: n}))
	}
	for _, n := range []int{0, 4, 5, 255} {
		p := api.Proposal{Kind: n}
		proposals().notBytes(t, "kind", proposalBytes(p))
		for _, like := range []int{api.Add, api.Update, api.Remove} {
			b := proposalBytes(api.Proposal{Kind: like})
			b[69] = byte(n)
			proposals().notBytes(t, "kind", b)
		}
	}
}

func TestFieldsOfOtherKinds(t *testing.T) {
	s := sourceOf(4)
	leaf := api.Node{Used: true}
	for range 3 {
		p := s.proposal(api.Add)
		p.At = 1
		proposals().refused(t, "At of an Add", p)
		p = s.proposal(api.Update)
		p.At = 1
		proposals().refused(t, "At of an Update", p)
		p = s.proposal(api.Update)
		p.Start[s.Intn(32)] = 1
		proposals().refused(t, "Start of an Update", p)
		p = s.proposal(api.Remove)
		p.Start[s.Intn(32)] = 1
		proposals().refused(t, "Start of a Remove", p)
		for _, n := range append(wrongNodes(), leaf, api.Node{Name: -1}) {
			p = s.proposal(api.Remove)
			p.Leaf = n
			proposals().refused(t, "Leaf of a Remove", p)
		}
	}
	p := s.proposal(api.Remove)
	p.Leaf.Unmerged = []int{}
	proposals().good(t, p)
}

func TestMany(t *testing.T) {
	s := sourceOf(5)
	list := func(n int) []api.Proposal { return make([]api.Proposal, n) }
	remove := func(n int) []api.Proposal {
		out := list(n)
		for i := range out {
			out[i] = s.proposal(api.Remove)
		}
		return out
	}
	commits().good(t, api.Commit{Proposals: remove(255)})
	commits().refused(t, "proposals", api.Commit{Proposals: remove(256)})
	commits().refused(t, "proposals", api.Commit{Proposals: remove(257)})
	steps := func(n int) api.Path { return api.Path{Steps: make([]api.Step, n)} }
	for n := range 6 {
		commits().good(t, api.Commit{Path: steps(n)})
	}
	for _, n := range []int{6, 7, 255, 256, 258} {
		commits().refused(t, "steps", api.Commit{Path: steps(n)})
	}
	commits().notBytes(t, "steps", commitBytes(api.Commit{Path: steps(6)}))
	sealed := func(n int) api.Path { return api.Path{Steps: []api.Step{{Sealed: make([][]byte, n)}}} }
	commits().good(t, api.Commit{Path: sealed(255)})
	commits().refused(t, "sealed", api.Commit{Path: sealed(256)})
	commits().refused(t, "sealed", api.Commit{Path: sealed(1 << 16)})
}

func TestMostBytes(t *testing.T) {
	most := 1 << 16
	zeros := make([]byte, 2*most)
	packets().good(t, api.Packet{Sealed: zeros[:most-43]})
	packets().refused(t, "too long", api.Packet{Sealed: zeros[:most-42]})
	packets().notBytes(t, "too long", packetBytes(api.Packet{Sealed: zeros[:most-42]}))
	welcomes().good(t, api.Welcome{Sealed: zeros[:most-5]})
	welcomes().good(t, api.Welcome{Info: zeros[:most-5]})
	welcomes().good(t, api.Welcome{Sealed: zeros[:100], Info: zeros[:most-105]})
	welcomes().refused(t, "too long", api.Welcome{Sealed: zeros[:100], Info: zeros[:most-104]})
	welcomes().notBytes(t, "too long", welcomeBytes(api.Welcome{Sealed: zeros[:100], Info: zeros[:most-104]}))
	for _, n := range []int{most - 4, most - 1, most, most + 5, 2 * most} {
		welcomes().refused(t, "too long", api.Welcome{Sealed: zeros[:n]})
		welcomes().refused(t, "too long", api.Welcome{Info: zeros[:n]})
		packets().refused(t, "too long", api.Packet{Sealed: zeros[:n]})
	}
	c := api.Commit{Path: api.Path{Steps: make([]api.Step, 2)}}
	rest := most - len(commitBytes(c)) - 4
	c.Path.Steps[0].Sealed = [][]byte{zeros[:rest/2]}
	c.Path.Steps[1].Sealed = [][]byte{zeros[:rest-rest/2]}
	commits().good(t, c)
	c.Path.Steps[1].Sealed[0] = zeros[:rest-rest/2+1]
	commits().refused(t, "too long", c)
	commits().notBytes(t, "too long", commitBytes(c))
	for i := range 2 {
		c.Path.Steps[i].Sealed = [][]byte{zeros[:most-1], zeros[:most-1]}
	}
	commits().refused(t, "much too long", c)
	commits().notBytes(t, "much too long", make([]byte, 1<<20))
}

func TestArgumentsStay(t *testing.T) {
	n := api.Node{Used: true, Unmerged: append(make([]int, 0, 8), 1, 2)}
	sealed := append(make([]byte, 0, 8), 7, 8)
	c := api.Commit{Path: api.Path{Leaf: n, Steps: []api.Step{{Sealed: [][]byte{sealed}}}}}
	if _, err := wire.PutCommit(c); err != nil {
		t.Error(err)
	}
	if !reflect.DeepEqual(n.Unmerged[:4], []int{1, 2, 0, 0}) || !bytes.Equal(sealed[:4], []byte{7, 8, 0, 0}) {
		t.Error("an argument was changed")
	}
}
