package wire

import (
	"bytes"

	"burrow/api"
)

// reader takes bytes off the front; it is bad from the first thing on that isn't an encoding.
type reader struct {
	in  []byte
	bad bool
}

func (r *reader) must(ok bool) {
	r.bad = r.bad || !ok
}

// raw returns the next bytes, none if there aren't as many.
func (r *reader) raw(many int) []byte {
	r.must(len(r.in) >= many)
	if r.bad {
		return nil
	}
	out := r.in[:many]
	r.in = r.in[many:]
	return out
}

func (r *reader) number(size int) int {
	n := 0
	for _, b := range r.raw(size) {
		n = n<<8 | int(b)
	}
	return n
}

func (r *reader) leaf() int {
	n := r.number(1)
	r.must(n < api.MaxMembers)
	return n
}

func (r *reader) bytes() []byte {
	return bytes.Clone(r.raw(r.number(2)))
}

func (r *reader) key() api.Key {
	var out api.Key
	copy(out[:], r.raw(len(out)))
	return out
}

func (r *reader) wide() api.Wide {
	var out api.Wide
	copy(out[:], r.raw(len(out)))
	return out
}

// takeList reads how many things there are, and these.
func takeList[T any](r *reader, take func(*reader) T) []T {
	var out []T
	for range r.number(1) {
		if r.bad {
			return nil
		}
		out = append(out, take(r))
	}
	return out
}

func (r *reader) node() api.Node {
	used := r.number(1)
	n := api.Node{
		Used:     used == 1,
		Name:     r.number(1),
		Key:      r.key(),
		Sign:     r.key(),
		Parent:   api.Sum(r.key()),
		Unmerged: takeList(r, (*reader).leaf),
	}
	r.must(used == 1 || used == 0 && blank(n))
	r.must(rising(n.Unmerged))
	return n
}

func (r *reader) tree() api.Tree {
	t := api.Tree(takeList(r, (*reader).node))
	r.must(treeSize(len(t)))
	return t
}

func (r *reader) proposal() api.Proposal {
	p := api.Proposal{
		Group: api.Sum(r.key()),
		Epoch: r.number(4),
		From:  r.leaf(),
		Base:  api.Sum(r.key()),
		Kind:  r.number(1),
	}
	switch p.Kind {
	case api.Add:
		p.Leaf = r.node()
		p.Start = r.key()
	case api.Update:
		p.Leaf = r.node()
	case api.Remove:
		p.At = r.leaf()
	default:
		r.must(false)
	}
	p.Sig = r.wide()
	return p
}

func (r *reader) step() api.Step {
	return api.Step{Key: r.key(), Sealed: takeList(r, (*reader).bytes)}
}

func (r *reader) path() api.Path {
	p := api.Path{Leaf: r.node(), Steps: takeList(r, (*reader).step)}
	r.must(len(p.Steps) <= maxSteps)
	return p
}

func (r *reader) commit() api.Commit {
	return api.Commit{
		Group:     api.Sum(r.key()),
		Epoch:     r.number(4),
		From:      r.leaf(),
		Base:      api.Sum(r.key()),
		Proposals: takeList(r, (*reader).proposal),
		Path:      r.path(),
		Tag:       api.Sum(r.key()),
		Sig:       r.wide(),
	}
}

func (r *reader) info() api.Info {
	return api.Info{
		Group:   api.Sum(r.key()),
		Epoch:   r.number(4),
		Nodes:   r.tree(),
		Confirm: api.Sum(r.key()),
		Tag:     api.Sum(r.key()),
		From:    r.leaf(),
		Sig:     r.wide(),
	}
}

func (r *reader) welcome() api.Welcome {
	return api.Welcome{Name: r.number(1), Sealed: r.bytes(), Info: r.bytes()}
}

func (r *reader) packet() api.Packet {
	return api.Packet{
		Group:  api.Sum(r.key()),
		Epoch:  r.number(4),
		From:   r.leaf(),
		Number: r.number(4),
		Sealed: r.bytes(),
	}
}
