package node_test

import (
	"bytes"
	"errors"
	"math/rand"
	"slices"
	"testing"

	"burrow/api"
	"burrow/member"
	"burrow/node"
	"burrow/packet"
)

// trio is node 1 of four, in a group with 0 and 2, whom the test plays.
type trio struct {
	n      *node.Node
	f0, f2 *far
	m0, m2 *member.Member
	b0, b2 *packet.Box
}

// trioOf makes the group: 0 has created it, and has added 1 and 2.
func trioOf(t *testing.T) *trio {
	t.Helper()
	x := &trio{n: nodeOf(t, 1, 4), m0: memberOf(t, 0), m2: memberOf(t, 2), b0: packet.New(), b2: packet.New()}
	x.f0, _ = meet(t, x.n, 1, 0)
	x.f2, _ = meet(t, x.n, 1, 2)
	if err := x.m0.Create(api.Sum{1}, api.Sum{2}); err != nil {
		t.Fatal(err)
	}
	cards := peersOf(t, 4)
	for _, i := range []int{1, 2} {
		if _, err := x.m0.Add(cards[i].Leaf, cards[i].Start); err != nil {
			t.Fatal(err)
		}
	}
	_, w := shadow(t, x.m0, random(70))
	silent(t, x.f0.gives(t, welcome, welcomeBytes(t, w[0])))
	if err := x.m2.Join(w[1]); err != nil {
		t.Fatal(err)
	}
	x.follow(t)
	if v := x.n.View(); !slices.Equal(v.Member.Names, []int{0, 1, 2}) || !slices.Equal(v.Epochs, []int{1}) || v.Member.Leaf != 1 {
		t.Fatalf("%+v", v)
	}
	return x
}

// follow lets the boxes follow the members.
func (x *trio) follow(t *testing.T) {
	t.Helper()
	enter(t, x.b0, x.m0)
	enter(t, x.b2, x.m2)
}

// turn is an empty commit of 0, that all take.
func (x *trio) turn(t *testing.T, seed int) {
	t.Helper()
	c, _ := shadow(t, x.m0, random(seed))
	silent(t, x.f0.gives(t, commit, commitBytes(t, c)))
	if err := x.m2.Handle(c); err != nil {
		t.Fatal(err)
	}
	x.follow(t)
	if !sameMember(x.n.View().Member, leafOf(x.m0.View(), 1)) {
		t.Fatal("not in the epoch")
	}
}

// leafOf is a view from another leaf.
func leafOf(v member.View, leaf int) member.View {
	v.Leaf = leaf
	return v
}

// payload checks that one payload came out.
func payload(t *testing.T, out []api.Out, from, epoch int, b []byte) {
	t.Helper()
	if len(out) != 1 || out[0].Peer != -1 || out[0].From != from || out[0].Epoch != epoch || !bytes.Equal(out[0].Bytes, b) {
		t.Fatalf("not the payload: %+v", out)
	}
}

func TestMessagesThatAreNone(t *testing.T) {
	x := trioOf(t)
	f := x.f0
	for _, b := range [][]byte{nil, {4}, {4, 0, 0, 0}, {5, 0, 0, 0}, {0, 0, 0, 0, 0}, {6, 0, 0, 0, 0}, {255, 0, 0, 0, 0, 1}, {5, 0, 0, 0, 0, 0}, {5, 0, 0, 0, 9, 1, 2}} {
		silent(t, notTaken(t, x.n, 0, f.wrap(t, b), api.ErrForm))
	}
	for _, kind := range []int{proposal, commit, welcome, parcel} {
		for _, b := range [][]byte{nil, {1}, make([]byte, 50), make([]byte, 500)} {
			f.fails(t, kind, b, api.ErrForm)
		}
	}
	silent(t, receive(t, x.n, 0, f.message(t, receipt, 99, nil))) // nothing waits under this number
}

func TestNumbersOfMessages(t *testing.T) {
	x := trioOf(t)
	f := x.f0
	seen := map[int]bool{}
	for n := range f.next {
		seen[n] = true
	}
	r := rand.New(rand.NewSource(1))
	for range 300 {
		n := []int{r.Intn(40), r.Intn(300), 1<<32 - 1, 1 << 31, 1<<32 - 1 - r.Intn(5)}[r.Intn(5)]
		want := api.ErrForm
		if seen[n] {
			want = api.ErrReplay
		}
		out := notTaken(t, x.n, 0, f.message(t, parcel, n, []byte{1}), want)
		f.acknowledged(t, out, n)
		silent(t, out[1:])
		seen[n] = true
	}
	out := notTaken(t, x.n, 2, x.f2.message(t, parcel, 0, []byte{1}), api.ErrForm) // each peer has numbers of its own
	x.f2.acknowledged(t, out, 0)
}

func TestAnErrorUsesANumberUp(t *testing.T) {
	x := trioOf(t)
	p, err := x.b0.Seal([]byte("one"))
	b := packetBytes(t, p, err)
	bad := bytes.Clone(b)
	bad[len(bad)-1] ^= 1
	number := x.f0.next
	x.f0.fails(t, parcel, bad, api.ErrAuth)
	out := notTaken(t, x.n, 0, x.f0.message(t, parcel, number, b), api.ErrReplay)
	x.f0.acknowledged(t, out, number)
	payload(t, x.f0.gives(t, parcel, b), 0, 1, []byte("one"))
}

func TestDoubledDatagrams(t *testing.T) {
	x := trioOf(t)
	p, err := x.b0.Seal([]byte("one"))
	b := packetBytes(t, p, err)
	d := x.f0.message(t, parcel, x.f0.next, b)
	out := receive(t, x.n, 0, d)
	payload(t, out[1:], 0, 1, []byte("one"))
	silent(t, notTaken(t, x.n, 0, d, api.ErrReplay)) // of the link: no acknowledgement
	out = notTaken(t, x.n, 0, x.f0.message(t, parcel, x.f0.next, b), api.ErrReplay)
	x.f0.acknowledged(t, out, x.f0.next)
	x.f0.next++
	x.f0.fails(t, parcel, b, api.ErrReplay) // of the box
	x.f2.fails(t, parcel, b, api.ErrReplay)
}

func TestPayloads(t *testing.T) {
	x := trioOf(t)
	for n, text := range [][]byte{nil, []byte("a"), make([]byte, 1024)} {
		p, err := x.b0.Seal(text)
		payload(t, x.f0.gives(t, parcel, packetBytes(t, p, err)), 0, 1, text)
		p, err = x.b2.Seal(text)
		payload(t, x.f0.gives(t, parcel, packetBytes(t, p, err)), 2, 1, text) // whoever carries it
		out := step(t, x.n, api.Command{Kind: api.DoSend, Payload: text}, random(71))
		if len(out) != 2 {
			t.Fatal("to both", len(out))
		}
		for i, f := range []*far{x.f0, x.f2} {
			kind, number, item := f.unwrap(t, out[i])
			if kind != parcel || number != n {
				t.Fatal("message", kind, number)
			}
			f.fails(t, parcel, item, api.ErrMember) // its own
		}
	}
}

func TestPayloadsOfEarlierEpochs(t *testing.T) {
	x := trioOf(t)
	var kept [][]byte
	for epoch := 1; epoch < 7; epoch++ {
		for range 6 {
			p, err := x.b2.Seal([]byte{byte(epoch)})
			kept = append(kept, packetBytes(t, p, err))
		}
		x.turn(t, 80+epoch)
		for i, at := range []int{epoch, epoch - 1, epoch - 2} { // the last three before this one
			if at >= 1 {
				b := kept[6*(at-1)+i]
				payload(t, x.f2.gives(t, parcel, b), 2, at, []byte{byte(at)})
				x.f2.fails(t, parcel, b, api.ErrReplay)
			}
		}
		if epoch >= 4 {
			x.f2.fails(t, parcel, kept[6*(epoch-4)+5], api.ErrEpoch)
		}
	}
	if v := x.n.View(); !slices.Equal(v.Epochs, []int{4, 5, 6, 7}) {
		t.Error("epochs", v.Epochs)
	}
}

// TestNamesOfTheirTime: who sealed a payload is told by the tree of its epoch, also when somebody else is at the leaf now.
func TestNamesOfTheirTime(t *testing.T) {
	x := trioOf(t)
	p, err := x.b2.Seal([]byte("late"))
	b := packetBytes(t, p, err)
	r, err := x.m0.Remove(2)
	silent(t, x.f0.gives(t, proposal, proposalBytes(t, r, err)))
	cards := peersOf(t, 4)
	a, err := x.m0.Add(cards[3].Leaf, cards[3].Start)
	silent(t, x.f0.gives(t, proposal, proposalBytes(t, a, err)))
	c, w := shadow(t, x.m0, random(72))
	silent(t, x.f0.gives(t, commit, commitBytes(t, c)))
	m3, b3 := memberOf(t, 3), packet.New()
	if err := m3.Join(w[0]); err != nil || m3.View().Leaf != 2 {
		t.Fatal(err)
	}
	enter(t, b3, m3)
	q, err := b3.Seal([]byte("new"))
	payload(t, x.f0.gives(t, parcel, packetBytes(t, q, err)), 3, 2, []byte("new"))
	payload(t, x.f0.gives(t, parcel, b), 2, 1, []byte("late"))
}

func TestItemsGoToTheMember(t *testing.T) {
	x := trioOf(t)
	p, err := x.m2.Remove(0)
	b := proposalBytes(t, p, err)
	silent(t, x.f0.gives(t, proposal, b))
	if x.n.View().Member.Cached != 1 {
		t.Error("not cached")
	}
	x.f2.fails(t, proposal, b, api.ErrReplay)
	bad := p
	bad.Sig[0]++
	x.f2.fails(t, proposal, proposalBytes(t, bad, nil), api.ErrAuth)
	c, _ := shadow(t, x.m0, random(73))
	wrong := c
	wrong.Tag[0]++
	x.f2.fails(t, commit, commitBytes(t, wrong), api.ErrAuth)
	silent(t, x.f2.gives(t, commit, commitBytes(t, c)))
	x.f2.fails(t, commit, commitBytes(t, c), api.ErrEpoch)
	if v := x.n.View(); v.Member.Epoch != 2 || v.Member.Cached != 0 || !slices.Equal(v.Epochs, []int{1, 2}) {
		t.Errorf("%+v", v)
	}
	x.f2.fails(t, welcome, welcomeBytes(t, api.Welcome{Name: 1}), api.ErrState)
	other := nodeOf(t, 3, 4)
	f, _ := meet(t, other, 3, 0)
	f.fails(t, welcome, welcomeBytes(t, api.Welcome{Name: 1}), api.ErrMember)
	f.fails(t, proposal, b, api.ErrState)
	f.fails(t, commit, commitBytes(t, c), api.ErrState)
	q, err := x.b0.Seal(nil)
	f.fails(t, parcel, packetBytes(t, q, err), api.ErrState)
}

func TestCommitsForLater(t *testing.T) {
	x := trioOf(t)
	one, _ := shadow(t, x.m0, random(74))
	x.follow(t)
	two, _ := shadow(t, x.m0, random(75))
	x.follow(t)
	p, err := x.b0.Seal([]byte("soon"))
	b := packetBytes(t, p, err)
	silent(t, x.f0.gives(t, commit, commitBytes(t, two)))
	if v := x.n.View(); v.Member.Buffered != 1 || v.Member.Epoch != 1 || !slices.Equal(v.Epochs, []int{1}) {
		t.Errorf("%+v", v)
	}
	x.f0.fails(t, parcel, b, api.ErrEpoch)
	silent(t, x.f0.gives(t, commit, commitBytes(t, one)))
	if v := x.n.View(); v.Member.Buffered != 0 || v.Member.Epoch != 3 || !slices.Equal(v.Epochs, []int{1, 2, 3}) {
		t.Errorf("%+v", v)
	}
	payload(t, x.f0.gives(t, parcel, b), 0, 3, []byte("soon"))
}

func TestWiped(t *testing.T) {
	x := trioOf(t)
	r, err := x.m0.Remove(1)
	silent(t, x.f0.gives(t, proposal, proposalBytes(t, r, err)))
	p, err := x.b0.Seal([]byte("late"))
	b := packetBytes(t, p, err)
	step(t, x.n, api.Command{Kind: api.DoSend, Payload: []byte("x")}, random(76))
	c, _ := shadow(t, x.m0, random(77))
	silent(t, x.f0.gives(t, commit, commitBytes(t, c)))
	v := x.n.View()
	if !sameMember(v.Member, member.View{Wiped: true}) || len(v.Epochs) != 0 || v.Next != 0 || !slices.Equal(v.Linked, []int{0, 2}) || !slices.Equal(v.Waiting, []int{1, 0, 1, 0}) {
		t.Errorf("%+v", v)
	}
	for _, kind := range []int{api.DoCreate, api.DoAdd, api.DoUpdate, api.DoRemove, api.DoCommit, api.DoSend} {
		notDone(t, x.n, api.Command{Kind: kind, Peer: 2, Payload: []byte("x")}, api.ErrState)
	}
	if x.n.Jump(5) {
		t.Error("jump")
	}
	out := step(t, x.n, api.Command{Kind: api.DoTick}, random(78))
	if len(out) != 2 {
		t.Error("what waits goes out as ever", len(out))
	}
	for _, o := range out {
		f := map[int]*far{0: x.f0, 2: x.f2}[o.Peer]
		f.unwrap(t, o)
	}
	x.f0.fails(t, parcel, b, api.ErrState)
	x.f0.fails(t, commit, commitBytes(t, c), api.ErrState)
}

func TestAcknowledgements(t *testing.T) {
	x := trioOf(t)
	for n := range 4 {
		step(t, x.n, api.Command{Kind: api.DoSend, Payload: []byte{byte(n)}}, random(79))
	}
	if v := x.n.View(); !slices.Equal(v.Waiting, []int{4, 0, 4, 0}) {
		t.Error("waiting", v.Waiting)
	}
	tick := func(f *far, want ...int) {
		t.Helper()
		var got []int
		for _, o := range step(t, x.n, api.Command{Kind: api.DoTick}, random(79)) {
			if o.Peer == f.me {
				_, number, _ := f.unwrap(t, o)
				got = append(got, number)
			}
		}
		if !slices.Equal(got, want) {
			t.Error("again", got, want)
		}
	}
	tick(x.f0, 0, 1, 2, 3)
	silent(t, receive(t, x.n, 0, x.f0.message(t, receipt, 1, nil)))
	tick(x.f0, 0, 2, 3)
	tick(x.f2, 0, 1, 2, 3)
	for _, n := range []int{1, 4, 9, 1<<32 - 1} {
		silent(t, receive(t, x.n, 0, x.f0.message(t, receipt, n, nil)))
	}
	if v := x.n.View(); !slices.Equal(v.Waiting, []int{3, 0, 4, 0}) {
		t.Error("waiting", v.Waiting)
	}
	silent(t, receive(t, x.n, 0, x.f0.message(t, receipt, 0, nil)))
	silent(t, receive(t, x.n, 0, x.f0.message(t, receipt, 3, nil)))
	tick(x.f0, 2)
	out := step(t, x.n, api.Command{Kind: api.DoSend, Payload: []byte{9}}, random(79))
	if _, number, _ := x.f0.unwrap(t, out[0]); number != 4 {
		t.Error("numbers go on", number)
	}
	tick(x.f0, 2, 4)
	silent(t, receive(t, x.n, 0, x.f0.message(t, receipt, 2, nil)))
	silent(t, receive(t, x.n, 0, x.f0.message(t, receipt, 4, nil)))
	tick(x.f0)
	if v := x.n.View(); !slices.Equal(v.Waiting, []int{0, 0, 5, 0}) {
		t.Error("waiting", v.Waiting)
	}
}

func TestFull(t *testing.T) {
	x := trioOf(t)
	for range 64 {
		step(t, x.n, api.Command{Kind: api.DoSend, Payload: []byte{1}}, random(90))
	}
	for n := range 64 {
		silent(t, receive(t, x.n, 0, x.f0.message(t, receipt, n, nil)))
	}
	if v := x.n.View(); !slices.Equal(v.Waiting, []int{0, 0, 64, 0}) || v.Next != 64 {
		t.Fatal("waiting", v.Waiting)
	}
	for _, c := range []api.Command{
		{Kind: api.DoAdd, Peer: 3}, {Kind: api.DoAdd, Peer: 0}, {Kind: api.DoUpdate}, {Kind: api.DoRemove, Peer: 2}, {Kind: api.DoRemove, Peer: 77},
		{Kind: api.DoCommit}, {Kind: api.DoSend, Payload: []byte{1}}, {Kind: api.DoSend, Payload: make([]byte, 2000)},
	} {
		notDone(t, x.n, c, api.ErrFull)
	}
	notDone(t, x.n, api.Command{Kind: api.DoAdd, Peer: 9}, api.ErrRange)
	notDone(t, x.n, api.Command{Kind: api.DoCreate}, api.ErrState)
	r, err := x.m0.Remove(2) // who is full goes
	silent(t, x.f0.gives(t, proposal, proposalBytes(t, r, err)))
	c, _ := shadow(t, x.m0, random(91))
	silent(t, x.f0.gives(t, commit, commitBytes(t, c)))
	notDone(t, x.n, api.Command{Kind: api.DoCommit}, api.ErrFull) // any other peer counts for a commit
	out := step(t, x.n, api.Command{Kind: api.DoSend, Payload: []byte{1}}, random(92))
	if len(out) != 1 || out[0].Peer != 0 {
		t.Error("to those of the group", len(out))
	}
	x.f0.unwrap(t, out[0])
	step(t, x.n, api.Command{Kind: api.DoAdd, Peer: 2}, random(93))
	silent(t, receive(t, x.n, 2, x.f2.message(t, receipt, 63, nil)))
	step(t, x.n, api.Command{Kind: api.DoCommit}, random(94))
	if v := x.n.View(); !slices.Equal(v.Member.Names, []int{0, 1, 2}) || v.Waiting[2] != 64 {
		t.Errorf("%+v", v)
	}
	notDone(t, x.n, api.Command{Kind: api.DoSend}, api.ErrFull)
}

// TestFullAndOut: who isn't in a group isn't asked whether its peers are full.
func TestFullAndOut(t *testing.T) {
	x := trioOf(t)
	for range 64 {
		step(t, x.n, api.Command{Kind: api.DoSend, Payload: []byte{1}}, random(90))
	}
	r, err := x.m0.Remove(1)
	silent(t, x.f0.gives(t, proposal, proposalBytes(t, r, err)))
	c, _ := shadow(t, x.m0, random(91))
	silent(t, x.f0.gives(t, commit, commitBytes(t, c)))
	for _, kind := range []int{api.DoAdd, api.DoUpdate, api.DoRemove, api.DoCommit, api.DoSend} {
		notDone(t, x.n, api.Command{Kind: kind, Peer: 0}, api.ErrState)
	}
}

// TestWithoutLinks: what is sent waits for the link, and goes out in order then.
func TestWithoutLinks(t *testing.T) {
	n := nodeOf(t, 1, 3)
	silent(t, step(t, n, api.Command{Kind: api.DoCreate}, random(100)))
	silent(t, step(t, n, api.Command{Kind: api.DoAdd, Peer: 2}, random(101)))
	silent(t, step(t, n, api.Command{Kind: api.DoAdd, Peer: 0}, random(101)))
	silent(t, step(t, n, api.Command{Kind: api.DoCommit}, random(102)))
	silent(t, step(t, n, api.Command{Kind: api.DoSend, Payload: []byte("a")}, random(103)))
	silent(t, step(t, n, api.Command{Kind: api.DoTick}, random(103)))
	silent(t, step(t, n, api.Command{Kind: api.DoUpdate}, random(103)))
	if v := n.View(); !slices.Equal(v.Waiting, []int{3, 0, 3}) {
		t.Error("waiting", v.Waiting)
	}
	for _, me := range []int{0, 2} {
		f, rest := meet(t, n, 1, me)
		var kinds, numbers []int
		for _, o := range rest {
			kind, number, _ := f.unwrap(t, o)
			kinds, numbers = append(kinds, kind), append(numbers, number)
		}
		if !slices.Equal(kinds, []int{welcome, parcel, proposal}) || !slices.Equal(numbers, []int{0, 1, 2}) {
			t.Error("what waited", kinds, numbers)
		}
	}
}

// TestStrangers: a group may have names that are no peers; nothing is sent to them.
func TestStrangers(t *testing.T) {
	peers := peersOf(t, 3)
	odd, err := node.Card(77, secretsOf(2))
	if err != nil {
		t.Fatal(err)
	}
	peers[2] = odd // peer 2 has a card of another name
	n, err := node.New(1, secretsOf(1), peers)
	if err != nil {
		t.Fatal(err)
	}
	step(t, n, api.Command{Kind: api.DoCreate}, random(110))
	step(t, n, api.Command{Kind: api.DoAdd, Peer: 2}, random(111))
	step(t, n, api.Command{Kind: api.DoCommit}, random(112))
	step(t, n, api.Command{Kind: api.DoSend}, random(113))
	if v := n.View(); !slices.Equal(v.Member.Names, []int{1, 77}) || !slices.Equal(v.Waiting, []int{0, 0, 0}) {
		t.Errorf("%+v", v)
	}
	step(t, n, api.Command{Kind: api.DoRemove, Peer: 77}, random(114))
	notDone(t, n, api.Command{Kind: api.DoRemove, Peer: 2}, api.ErrMember)
}

// TestEverythingArrives: two nodes over a road that loses most of what is on it.
func TestEverythingArrives(t *testing.T) {
	r := rand.New(rand.NewSource(3))
	nodes := []*node.Node{nodeOf(t, 0, 2), nodeOf(t, 1, 2)}
	var got []byte
	draws := 1000
	run := func(from int, out []api.Out) {
		var road []api.Out
		add := func(from int, out []api.Out) {
			for _, o := range out {
				if o.Peer < 0 {
					got = append(got, o.Bytes...)
					continue
				}
				o.From = from
				if r.Intn(3) == 0 {
					road = append(road, o)
				}
			}
		}
		add(from, out)
		for len(road) > 0 {
			i := r.Intn(len(road))
			o := road[i]
			if r.Intn(4) > 0 {
				road = slices.Delete(road, i, i+1)
			}
			draws++
			out, _ := nodes[o.Peer].Receive(o.From, o.Bytes, random(draws))
			add(o.Peer, out)
		}
	}
	do := func(i int, c api.Command) {
		draws++
		run(i, step(t, nodes[i], c, random(draws)))
	}
	ticks := func() {
		for range 40 {
			do(0, api.Command{Kind: api.DoTick})
			do(1, api.Command{Kind: api.DoTick})
		}
	}
	do(0, api.Command{Kind: api.DoConnect, Peer: 1})
	do(0, api.Command{Kind: api.DoCreate})
	do(0, api.Command{Kind: api.DoAdd, Peer: 1})
	do(0, api.Command{Kind: api.DoCommit})
	ticks()
	for n := range 20 {
		do(n%2, api.Command{Kind: api.DoSend, Payload: []byte{byte(n)}})
	}
	ticks()
	do(1, api.Command{Kind: api.DoUpdate})
	ticks()
	do(0, api.Command{Kind: api.DoCommit})
	ticks()
	a, b := nodes[0].View(), nodes[1].View()
	if !sameMember(leafOf(a.Member, 1), b.Member) || a.Member.Epoch != 2 || !slices.Equal(a.Waiting, []int{0, 0}) || !slices.Equal(b.Waiting, []int{0, 0}) {
		t.Errorf("%+v\n%+v", a, b)
	}
	slices.Sort(got)
	for n := range 20 {
		if len(got) != 20 || got[n] != byte(n) {
			t.Fatal("payloads", got)
		}
	}
}

func TestArgumentsStay(t *testing.T) {
	peers := peersOf(t, 4)
	peers[2].Leaf.Unmerged = []int{7}
	n, err := node.New(1, secretsOf(1), peers)
	if err != nil {
		t.Fatal(err)
	}
	peers[2].Leaf.Unmerged[0] = 5
	peers[0], peers[3] = node.Peer{}, node.Peer{}
	f, _ := meet(t, n, 1, 0)
	step(t, n, api.Command{Kind: api.DoCreate}, random(120))
	step(t, n, api.Command{Kind: api.DoAdd, Peer: 3}, random(121))
	step(t, n, api.Command{Kind: api.DoAdd, Peer: 0}, random(121))
	notDone(t, n, api.Command{Kind: api.DoAdd, Peer: 2}, api.ErrForm)
	out := step(t, n, api.Command{Kind: api.DoCommit}, random(122))
	kept := bytes.Clone(out[0].Bytes)
	clear(out[0].Bytes)
	again := step(t, n, api.Command{Kind: api.DoTick}, random(122))
	if len(again) != 1 || len(again[0].Bytes) != len(kept) {
		t.Fatal("again", len(again))
	}
	_, _, item := f.unwrap(t, again[0])
	m := memberOf(t, 0)
	w, err := takeWelcome(item)
	if err != nil || m.Join(w) != nil {
		t.Fatal("what goes out shares with what waits", err)
	}
	box := packet.New()
	enter(t, box, m)
	text := append([]byte("text"), make([]byte, 20)...)
	step(t, n, api.Command{Kind: api.DoSend, Payload: text[:4]}, random(123))
	p, err := box.Seal([]byte("text"))
	d := append(f.message(t, parcel, 0, packetBytes(t, p, err)), 9, 9, 9)
	keptD := bytes.Clone(d)
	got := receive(t, n, 0, d[:len(d)-3])
	if !bytes.Equal(d, keptD) || !bytes.Equal(text, append([]byte("text"), make([]byte, 20)...)) {
		t.Error("an argument was changed")
	}
	clear(d)
	payload(t, got[1:], 0, 1, []byte("text"))
	v := n.View()
	v.Waiting[0], v.Epochs[0], v.Linked[0], v.Member.Names[0] = 9, 9, 9, 9
	if w := n.View(); w.Waiting[0] == 9 || w.Epochs[0] == 9 || w.Linked[0] == 9 || w.Member.Names[0] == 9 {
		t.Error("a view is shared")
	}
}

func TestErrorsAreErrors(t *testing.T) {
	n := nodeOf(t, 0, 2)
	_, err := n.Step(api.Command{}, api.Key{})
	var no api.Errno
	if !errors.As(err, &no) || no != api.ErrForm {
		t.Error(err)
	}
}
