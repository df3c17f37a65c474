package member

import (
	"bytes"

	"burrow/api"
	"burrow/ladder"
	"burrow/prop"
	"burrow/tree"
	"burrow/wire"
)

// draft is a proposal of this epoch, without what is proposed.
func (e *epoch) draft(kind int) api.Proposal {
	return api.Proposal{Group: e.group, Epoch: e.number, From: e.leaf, Base: e.interim, Kind: kind}
}

// propose signs a proposal, and caches it.
func (m *Member) propose(p api.Proposal) (api.Proposal, error) {
	p, err := prop.Sign(p, m.seed)
	if err != nil {
		return api.Proposal{}, err
	}
	if err := m.Take(p); err != nil {
		return api.Proposal{}, err
	}
	return p, nil
}

// Add proposes that somebody is added.
func (m *Member) Add(leaf api.Node, start api.Key) (api.Proposal, error) {
	if !m.in() {
		return api.Proposal{}, api.ErrState
	}
	p := m.draft(api.Add)
	p.Leaf, p.Start = leaf, start
	return m.propose(p)
}

// Update proposes another key for its own leaf.
func (m *Member) Update(secret api.Key) (api.Proposal, error) {
	if !m.in() {
		return api.Proposal{}, api.ErrState
	}
	p := m.draft(api.Update)
	p.Leaf = m.nodes[2*m.leaf]
	p.Leaf.Key, p.Leaf.Parent = ladder.Public(secret), api.Sum{}
	p, err := m.propose(p)
	if err != nil {
		return api.Proposal{}, err
	}
	m.updates[p.Leaf.Key] = secret
	return p, nil
}

// Remove proposes that a name goes.
func (m *Member) Remove(name int) (api.Proposal, error) {
	if !m.in() {
		return api.Proposal{}, api.ErrState
	}
	p := m.draft(api.Remove)
	p.At = tree.Find(m.nodes, name)
	if p.At < 0 {
		return api.Proposal{}, api.ErrMember
	}
	return m.propose(p)
}

// Take caches a proposal.
func (m *Member) Take(p api.Proposal) error {
	if !m.in() {
		return api.ErrState
	}
	if err := prop.Check(m.nodes, p, m.group, m.number, m.interim); err != nil {
		return err
	}
	for _, q := range m.cached {
		if same(p, q) {
			return api.ErrReplay
		}
	}
	if len(m.cached) == api.MaxBuffered {
		return api.ErrFull
	}
	p.Leaf.Unmerged = nil // it is empty, but may have capacity that is the caller's
	m.cached = append(m.cached, p)
	return nil
}

// same tells whether two proposals have the same bytes.
func same(p, q api.Proposal) bool {
	a, err := wire.PutProposal(p)
	if err != nil {
		return false
	}
	b, err := wire.PutProposal(q)
	return err == nil && bytes.Equal(a, b)
}
