package member

import (
	"bytes"
	"maps"

	"burrow/api"
	"burrow/commit"
	"burrow/path"
	"burrow/prop"
	"burrow/wire"
)

// waiting is a commit for later: the epoch that it ends, and its bytes.
type waiting struct {
	epoch int
	bytes []byte
}

// Handle takes the commit of another member.
func (m *Member) Handle(c api.Commit) error {
	if !m.in() {
		return api.ErrState
	}
	b, err := wire.PutCommit(c)
	if err != nil {
		return err
	}
	if c.Group != m.group || c.Epoch < m.number {
		return api.ErrEpoch
	}
	if c.Epoch > m.number {
		return m.keep(waiting{c.Epoch, b})
	}
	if err := m.heed(c); err != nil {
		return err
	}
	m.catchUp()
	return nil
}

// keep keeps a commit for later.
func (m *Member) keep(w waiting) error {
	for _, other := range m.later {
		if bytes.Equal(other.bytes, w.bytes) {
			return api.ErrReplay
		}
	}
	if len(m.later) == api.MaxBuffered {
		return api.ErrFull
	}
	m.later = append(m.later, w)
	return nil
}

// catchUp tries the commits for later, as long as one of them leads on.
func (m *Member) catchUp() {
	for m.in() && m.tryLater() {
	}
}

// tryLater tries the commits for this epoch, until one succeeds. None of them is kept.
func (m *Member) tryLater() bool {
	now, list := m.number, m.later
	m.later = nil
	for _, w := range list {
		if w.epoch > now {
			m.later = append(m.later, w)
		}
	}
	for _, w := range list {
		if w.epoch != now {
			continue
		}
		c, err := wire.TakeCommit(w.bytes)
		if err == nil && m.heed(c) == nil {
			return true
		}
	}
	return false
}

// heed goes where a commit of this epoch leads: to the next one, or out for ever.
func (m *Member) heed(c api.Commit) error {
	if m.number == api.MaxCount {
		return api.ErrUsedUp
	}
	if c.Base != m.interim {
		return api.ErrEpoch
	}
	if c.From == m.leaf || !used(m.nodes, c.From) {
		return api.ErrMember
	}
	if !commit.Verify(c, m.nodes[2*c.From].Sign) {
		return api.ErrAuth
	}
	nodes, added, err := prop.Apply(m.nodes, c.Proposals, c.From, m.group, m.number, m.interim)
	if err != nil {
		return err
	}
	if m.removedBy(c) {
		if _, err := path.Put(nodes, c.From, c.Path); err != nil {
			return err
		}
		m.wipe()
		return nil
	}
	next, err := m.learn(c, nodes, added)
	if err != nil {
		return err
	}
	m.enter(next)
	return nil
}

func (e *epoch) removedBy(c api.Commit) bool {
	for _, p := range c.Proposals {
		if p.Kind == api.Remove && p.At == e.leaf {
			return true
		}
	}
	return false
}

// learn is the epoch that another one's commit leads to; nodes is the tree that comes of its proposals.
func (e *epoch) learn(c api.Commit, nodes api.Tree, added []int) (*epoch, error) {
	keys := maps.Clone(e.keys)
	for _, p := range c.Proposals {
		if p.Kind == api.Update && p.From == e.leaf {
			secret, ok := e.updates[p.Leaf.Key]
			if !ok {
				return nil, api.ErrState
			}
			keys[2*e.leaf] = secret
		}
	}
	after, err := path.Put(nodes, c.From, c.Path)
	if err != nil {
		return nil, err
	}
	next := begin(e.group, e.number+1, after, e.leaf, nil)
	learnt, err := path.Learn(nodes, c.From, c.Path, e.leaf, keys, next.context(e.confirmed), added...)
	if err != nil {
		return nil, err
	}
	next.keys = learnt.Keys
	tag, err := next.follow(e, c, learnt.Commit)
	if err != nil {
		return nil, err
	}
	if tag != c.Tag {
		return nil, api.ErrAuth
	}
	return next, nil
}
