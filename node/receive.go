package node

import (
	"bytes"

	"burrow/api"
	"burrow/wire"
)

// Receive handles a datagram. With an error, nothing but an acknowledgement goes out.
func (n *Node) Receive(from int, b []byte, draw api.Key) ([]api.Out, error) {
	if n == nil {
		return nil, api.ErrState
	}
	if !n.other(from) {
		return nil, api.ErrRange
	}
	if len(b) == 0 {
		return nil, api.ErrForm
	}
	s := &step{Node: n, draws: draws{draw: draw}}
	var handle func(from int, b []byte) error
	switch b[0] {
	case ofFirst:
		handle = s.answer
	case ofSecond:
		handle = s.finish
	case ofLink:
		handle = s.take
	default:
		return nil, api.ErrForm
	}
	err := handle(from, b)
	s.settle()
	return s.outs, err
}

// answer answers the first datagram of a handshake, also when it comes again.
func (s *step) answer(from int, b []byte) error {
	p := &s.peers[from]
	if p.second != nil && bytes.Equal(p.first, b) {
		s.put(from, p.second)
		return nil
	}
	if from > s.name || p.hands != nil || p.link != nil {
		return api.ErrState
	}
	hands := s.handshake(from, false)
	if _, err := hands.Read(b[1:]); err != nil {
		return err
	}
	second, err := hands.Write(s.key(), nil)
	if err != nil {
		return err
	}
	if err := p.join(hands); err != nil {
		return err
	}
	p.first, p.second = bytes.Clone(b), datagram(ofSecond, second)
	s.put(from, p.second)
	s.again(from)
	return nil
}

// finish takes the second datagram of a handshake that was begun here.
func (s *step) finish(from int, b []byte) error {
	p := &s.peers[from]
	if p.hands == nil {
		return api.ErrState
	}
	if _, err := p.hands.Read(b[1:]); err != nil {
		return err
	}
	if err := p.join(p.hands); err != nil {
		return err
	}
	p.first = nil
	s.again(from)
	return nil
}

// take takes a message of the link.
func (s *step) take(from int, b []byte) error {
	p := &s.peers[from]
	if p.link == nil {
		return api.ErrState
	}
	m, err := p.link.Take(b[1:])
	if err != nil {
		return err
	}
	if len(m) < head || m[0] < ofProposal || m[0] > ofReceipt || m[0] == ofReceipt && len(m) > head {
		return api.ErrForm
	}
	number := int(m[1])<<24 | int(m[2])<<16 | int(m[3])<<8 | int(m[4])
	if m[0] == ofReceipt {
		p.acknowledge(number)
		return nil
	}
	s.carry(from, payload(ofReceipt, number, nil))
	if !p.arrived.add(number) {
		return api.ErrReplay
	}
	return s.item(m[0], m[head:])
}

// item takes what a message carries.
func (s *step) item(kind byte, b []byte) error {
	switch kind {
	case ofProposal:
		p, err := wire.TakeProposal(b)
		if err != nil {
			return err
		}
		return s.member.Take(p)
	case ofCommit:
		c, err := wire.TakeCommit(b)
		if err != nil {
			return err
		}
		return s.member.Handle(c)
	case ofWelcome:
		w, err := wire.TakeWelcome(b)
		if err != nil {
			return err
		}
		return s.member.Join(w)
	}
	p, err := wire.TakePacket(b)
	if err != nil {
		return err
	}
	opened, err := s.box.Open(p)
	if err != nil {
		return err
	}
	s.outs = append(s.outs, api.Out{Peer: -1, Bytes: opened, From: s.nameOf(p.Epoch, p.From), Epoch: p.Epoch})
	return nil
}
