package member

import (
	"burrow/api"
	"burrow/commit"
	"burrow/mark"
	"burrow/path"
	"burrow/sched"
	"burrow/tree"
)

// Create puts it into a new group.
func (m *Member) Create(group, draw api.Sum) error {
	if !m.out() {
		return api.ErrState
	}
	e := begin(group, 0, api.Tree{m.card}, 0, map[int]api.Key{0: m.first.Secret})
	confirmed := api.Sum{}
	e.settle(sched.Next(draw, draw, e.context(confirmed)), confirmed)
	m.enter(e)
	return nil
}

// Join puts it into the epoch of a welcome.
func (m *Member) Join(w api.Welcome) error {
	if !m.out() {
		return api.ErrState
	}
	if w.Name != m.card.Name {
		return api.ErrMember
	}
	o, err := commit.Open(w, m.start)
	if err != nil {
		return err
	}
	x := o.Info
	if !mark.Bound(x.Nodes) || !used(x.Nodes, x.From) || !commit.VerifyInfo(x, x.Nodes[2*x.From].Sign) {
		return api.ErrAuth
	}
	leaf := tree.Find(x.Nodes, m.card.Name)
	if leaf < 0 || leaf == x.From || x.Nodes[2*leaf].Key != m.card.Key || x.Nodes[2*leaf].Sign != m.card.Sign {
		return api.ErrMember
	}
	e := begin(x.Group, x.Epoch, x.Nodes, leaf, map[int]api.Key{2 * leaf: m.first.Secret})
	if e.settle(sched.Joined(o.Joiner, e.context(x.Confirm)), x.Confirm) != x.Tag {
		return api.ErrAuth
	}
	if o.Has {
		keys, _, err := path.From(x.Nodes, x.From, leaf, o.Path, false)
		if err != nil {
			return err
		}
		for n, key := range keys {
			e.keys[n] = key
		}
	}
	m.enter(e)
	return nil
}
