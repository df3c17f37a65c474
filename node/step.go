package node

import (
	"slices"

	"burrow/api"
	"burrow/kdf"
	"burrow/wire"
)

// maxDraws is how many keys a commit is given beside those of its leaf and its path.
const maxDraws = 128

// draws is the keys of a step, one after another.
type draws struct {
	draw api.Key
	many int
}

// key is the next one.
func (d *draws) key() api.Key {
	b, err := kdf.Label(api.Sum(d.draw), "draw", []byte{byte(d.many >> 8), byte(d.many)}, 32)
	if err != nil {
		return api.Key{}
	}
	d.many++
	return api.Key(b)
}

// step is a step in progress.
type step struct {
	*Node
	draws
	outs []api.Out
}

// Step performs a command.
func (n *Node) Step(c api.Command, draw api.Key) ([]api.Out, error) {
	if n == nil {
		return nil, api.ErrState
	}
	s := &step{Node: n, draws: draws{draw: draw}}
	if err := s.perform(c); err != nil {
		return nil, err
	}
	s.settle()
	return s.outs, nil
}

func (s *step) perform(c api.Command) error {
	switch c.Kind {
	case api.DoConnect:
		return s.connect(c.Peer)
	case api.DoCreate:
		group := s.key()
		return s.member.Create(api.Sum(group), api.Sum(s.key()))
	case api.DoAdd:
		if !s.other(c.Peer) {
			return api.ErrRange
		}
		card := s.peers[c.Peer].Peer
		return s.propose(func() (api.Proposal, error) { return s.member.Add(card.Leaf, card.Start) })
	case api.DoUpdate:
		return s.propose(func() (api.Proposal, error) { return s.member.Update(s.key()) })
	case api.DoRemove:
		return s.propose(func() (api.Proposal, error) { return s.member.Remove(c.Peer) })
	case api.DoCommit:
		return s.commit()
	case api.DoSend:
		return s.seal(c.Payload)
	case api.DoTick:
		s.tick()
		return nil
	}
	return api.ErrForm
}

// connect begins a handshake. Only one side may: the one with the lower number.
func (s *step) connect(to int) error {
	if !s.other(to) {
		return api.ErrRange
	}
	p := &s.peers[to]
	if to < s.name || p.hands != nil || p.link != nil {
		return api.ErrState
	}
	hands := s.handshake(to, true)
	b, err := hands.Write(s.key(), nil)
	if err != nil {
		return err
	}
	p.hands, p.first = hands, datagram(ofFirst, b)
	s.put(to, p.first)
	return nil
}

// put lets a datagram go out; the node keeps its own bytes.
func (s *step) put(to int, b []byte) {
	s.outs = append(s.outs, out(to, slices.Clone(b)))
}

// carry lets a payload go out over the link, if there is one.
func (s *step) carry(to int, payload []byte) {
	l := s.peers[to].link
	if l == nil {
		return
	}
	if b, err := l.Send(payload); err == nil {
		s.put(to, datagram(ofLink, b))
	}
}

// send gives each of the peers an item.
func (s *step) send(to []int, kind byte, item []byte) {
	for _, i := range to {
		s.carry(i, s.peers[i].add(kind, item))
	}
}

// again lets all that waits for a peer go out.
func (s *step) again(to int) {
	for _, m := range s.peers[to].waiting {
		s.carry(to, m.payload)
	}
}

// propose makes a proposal, and sends it to the group.
func (s *step) propose(draft func() (api.Proposal, error)) error {
	to := s.group()
	if s.full(to) {
		return api.ErrFull
	}
	p, err := draft()
	if err != nil {
		return err
	}
	b, err := wire.PutProposal(p)
	if err != nil {
		return err
	}
	s.send(to, ofProposal, b)
	return nil
}

// commit ends the epoch, and sends the commit to those who were in it, and the welcomes.
func (s *step) commit() error {
	if s.member.View().In && s.full(s.others()) {
		return api.ErrFull
	}
	to := s.group()
	leaf, path := s.key(), s.key()
	keys := make([]api.Key, maxDraws)
	for i := range keys {
		keys[i] = s.key()
	}
	c, welcomes, err := s.member.Commit(leaf, path, keys)
	if err != nil {
		return err
	}
	b, err := wire.PutCommit(c)
	if err != nil {
		return err
	}
	s.send(to, ofCommit, b)
	for _, w := range welcomes {
		b, err := wire.PutWelcome(w)
		if err == nil && s.other(w.Name) {
			s.send([]int{w.Name}, ofWelcome, b)
		}
	}
	return nil
}

// others is all peers but the node itself.
func (n *Node) others() []int {
	var out []int
	for i := range n.peers {
		if i != n.name {
			out = append(out, i)
		}
	}
	return out
}

// seal sends a payload to the group.
func (s *step) seal(payload []byte) error {
	to := s.group()
	if s.full(to) {
		return api.ErrFull
	}
	if !s.member.View().In {
		return api.ErrState
	}
	p, err := s.box.Seal(payload)
	if err != nil {
		return err
	}
	b, err := wire.PutPacket(p)
	if err != nil {
		return err
	}
	s.send(to, ofPacket, b)
	return nil
}

// tick lets everything go out again that may have been lost.
func (s *step) tick() {
	for i := range s.peers {
		if s.peers[i].hands != nil {
			s.put(i, s.peers[i].first)
		}
		s.again(i)
	}
}
