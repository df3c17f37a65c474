package prop

import (
	"burrow/api"
	"burrow/tree"
)

// concern is what only one proposal of a list may be about: a leaf, or the name of somebody new.
type concern struct {
	added  bool
	number int
}

func concernOf(p api.Proposal) concern {
	switch p.Kind {
	case api.Add:
		return concern{added: true, number: p.Leaf.Name}
	case api.Update:
		return concern{number: p.From}
	}
	return concern{number: p.At}
}

// Apply returns the tree that comes of a list, and the leaves that were added.
func Apply(t api.Tree, list []api.Proposal, committer int, group api.Sum, epoch int, base api.Sum) (api.Tree, []int, error) {
	if tree.Check(t) != nil {
		return nil, nil, api.ErrForm
	}
	if !used(t, committer) {
		return nil, nil, api.ErrMember
	}
	many := map[concern]int{{number: committer}: 1} // its own leaf is the commit's
	for _, p := range list {
		if err := Check(t, p, group, epoch, base); err != nil {
			return nil, nil, err
		}
		c := concernOf(p)
		many[c]++
		if many[c] > 1 {
			return nil, nil, api.ErrState
		}
	}
	return perform(t, list)
}

// perform makes the changes of a valid list.
func perform(t api.Tree, list []api.Proposal) (api.Tree, []int, error) {
	out := tree.Copy(t)
	var added []int
	for _, kind := range [...]int{api.Update, api.Remove, api.Add} {
		for _, p := range list {
			if p.Kind != kind {
				continue
			}
			next, i, err := change(out, p)
			if err != nil {
				return nil, nil, err
			}
			out = next
			if kind == api.Add {
				added = append(added, i)
			}
		}
	}
	return out, added, nil
}

// change makes one change, and returns the leaf that was added, if one was.
func change(t api.Tree, p api.Proposal) (api.Tree, int, error) {
	switch p.Kind {
	case api.Add:
		return tree.Add(t, p.Leaf)
	case api.Update:
		out, err := tree.Update(t, p.From, p.Leaf)
		return out, 0, err
	}
	out, err := tree.Remove(t, p.At)
	return out, 0, err
}
