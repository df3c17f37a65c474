package node

import (
	"slices"

	"burrow/api"
	"burrow/link"
	"burrow/noise"
)

const (
	maxWaiting = 64
	head       = 5 // bytes of a message before its item
)

// The kinds of messages.
const (
	_ byte = iota
	ofProposal
	ofCommit
	ofWelcome
	ofPacket
	ofReceipt
)

// peer is another node, and what passes between it and this one.
type peer struct {
	Peer
	hands   *noise.Hands // a handshake that was begun here, and waits for its answer
	first   []byte       // the first datagram of the handshake, that went out or that was read
	second  []byte       // the second one, if it went out from here
	link    *link.Link
	waiting []message // what wasn't acknowledged
	next    int       // the number of the next message
	arrived arrivals
}

// message is the payload of a link's message, which waits for its acknowledgement.
type message struct {
	number  int
	payload []byte
}

// payload is a message's bytes.
func payload(kind byte, number int, item []byte) []byte {
	out := []byte{kind, byte(number >> 24), byte(number >> 16), byte(number >> 8), byte(number)}
	return append(out, item...)
}

// add appends a message, and returns its payload.
func (p *peer) add(kind byte, item []byte) []byte {
	m := message{p.next, payload(kind, p.next, item)}
	p.waiting = append(p.waiting, m)
	p.next++
	return m.payload
}

// acknowledge removes the message with a number.
func (p *peer) acknowledge(number int) {
	p.waiting = slices.DeleteFunc(p.waiting, func(m message) bool { return m.number == number })
}

// join puts a link in the place of the handshake.
func (p *peer) join(h *noise.Hands) error {
	send, receive, err := h.Keys()
	if err != nil {
		return err
	}
	p.link, p.hands = link.New(send, receive), nil
	return nil
}

// prologue is that of the handshake of two nodes.
func prologue(begins, answers int) []byte {
	return []byte{byte(begins), byte(answers)}
}

// handshake is a new handshake with a peer.
func (n *Node) handshake(with int, begins bool) *noise.Hands {
	if begins {
		return noise.New(true, n.static, n.peers[with].Static, prologue(n.name, with))
	}
	return noise.New(false, n.static, n.peers[with].Static, prologue(with, n.name))
}

// arrivals is which numbers have arrived: all below one, and some beyond it.
type arrivals struct {
	below  int
	beyond map[int]struct{}
}

// add takes a number, and tells whether it is new.
func (a *arrivals) add(number int) bool {
	if _, ok := a.beyond[number]; ok || number < a.below {
		return false
	}
	if a.beyond == nil {
		a.beyond = map[int]struct{}{}
	}
	a.beyond[number] = struct{}{}
	for {
		if _, ok := a.beyond[a.below]; !ok {
			return true
		}
		delete(a.beyond, a.below)
		a.below++
	}
}

// The first bytes of datagrams.
const (
	_ byte = iota
	ofFirst
	ofSecond
	ofLink
)

// datagram is bytes with their first one.
func datagram(kind byte, b []byte) []byte {
	return append([]byte{kind}, b...)
}

// out is a datagram for a peer.
func out(to int, b []byte) api.Out {
	return api.Out{Peer: to, Bytes: b}
}
