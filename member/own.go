package member

import (
	"burrow/api"
	"burrow/commit"
	"burrow/path"
	"burrow/prop"
	"burrow/seat"
)

// changes is a list of proposals, and what comes of it.
type changes struct {
	list  []api.Proposal
	nodes api.Tree
	added []int
}

// Commit ends the epoch.
func (m *Member) Commit(leaf, path api.Key, draws []api.Key) (api.Commit, []api.Welcome, error) {
	if !m.in() {
		return api.Commit{}, nil, api.ErrState
	}
	if m.number == api.MaxCount {
		return api.Commit{}, nil, api.ErrUsedUp
	}
	next, c, welcomes, err := m.compose(leaf, path, draws)
	if err != nil {
		return api.Commit{}, nil, err
	}
	m.enter(next)
	m.catchUp()
	return c, welcomes, nil
}

// compose makes the next epoch, the commit that leads to it, and the welcomes.
func (m *Member) compose(leaf, secret api.Key, draws []api.Key) (*epoch, api.Commit, []api.Welcome, error) {
	x, err := m.chosen()
	if err != nil {
		return nil, api.Commit{}, nil, err
	}
	need, err := path.Need(x.nodes, m.leaf, x.added...)
	if err != nil {
		return nil, api.Commit{}, nil, err
	}
	if len(draws) < need+len(x.added) {
		return nil, api.Commit{}, nil, api.ErrRange
	}
	plan, err := path.New(x.nodes, m.leaf, leaf, secret)
	if err != nil {
		return nil, api.Commit{}, nil, err
	}
	next := begin(m.group, m.number+1, plan.Nodes, m.leaf, keysOf(plan, m.leaf))
	c := api.Commit{Group: m.group, Epoch: m.number, From: m.leaf, Base: m.interim, Proposals: x.list}
	c.Path, err = plan.Path(m.leaf, next.context(m.confirmed), draws[:need], x.added...)
	if err != nil {
		return nil, api.Commit{}, nil, err
	}
	c, err = commit.Sign(c, m.seed)
	if err != nil {
		return nil, api.Commit{}, nil, err
	}
	c.Tag, err = next.follow(m.epoch, c, plan.Commit)
	if err != nil {
		return nil, api.Commit{}, nil, err
	}
	welcomes, err := m.welcome(next, c.Tag, plan, x, draws[need:])
	if err != nil {
		return nil, api.Commit{}, nil, err
	}
	return next, c, welcomes, nil
}

// chosen is the cached proposals, in order, but for those that the list can't hold.
func (e *epoch) chosen() (changes, error) {
	out := changes{}
	var err error
	out.nodes, out.added, err = e.apply(nil)
	if err != nil {
		return changes{}, err
	}
	for _, p := range e.cached {
		list := append(out.list, p)
		if nodes, added, err := e.apply(list); err == nil {
			out = changes{list, nodes, added}
		}
	}
	return out, nil
}

// apply is what comes of a list of its own.
func (e *epoch) apply(list []api.Proposal) (api.Tree, []int, error) {
	return prop.Apply(e.nodes, list, e.leaf, e.group, e.number, e.interim)
}

// keysOf are the secret keys of a plan, by node.
func keysOf(plan path.Plan, leaf int) map[int]api.Key {
	out := map[int]api.Key{2 * leaf: plan.Leaf.Secret}
	for k, n := range plan.Ways {
		out[n] = path.NodeKey(plan.Secrets[k])
	}
	return out
}

// welcome makes a welcome for each leaf that was added.
func (m *Member) welcome(next *epoch, tag api.Sum, plan path.Plan, x changes, draws []api.Key) ([]api.Welcome, error) {
	if len(x.added) == 0 {
		return nil, nil
	}
	info, err := commit.SignInfo(api.Info{
		Group:   next.group,
		Epoch:   next.number,
		Nodes:   next.nodes,
		Confirm: next.confirmed,
		Tag:     tag,
		From:    next.leaf,
	}, m.seed)
	if err != nil {
		return nil, err
	}
	var out []api.Welcome
	for _, p := range x.list {
		if p.Kind != api.Add {
			continue
		}
		k := len(out)
		w, err := commit.Welcome(p.Leaf.Name, p.Start, draws[k], next.secrets.Joiner, info, pathSecret(plan, x.added[k])...)
		if err != nil {
			return nil, err
		}
		out = append(out, w)
	}
	return out, nil
}

// pathSecret is the secret of the lowest node of a plan's way above a leaf, if there is one.
func pathSecret(plan path.Plan, leaf int) []api.Sum {
	for k, n := range plan.Ways {
		if first, last := seat.Below(n, seat.Leaves(len(plan.Nodes))); leaf >= first && leaf <= last {
			return []api.Sum{plan.Secrets[k]}
		}
	}
	return nil
}
