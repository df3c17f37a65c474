package member

import (
	"burrow/api"
	"burrow/commit"
	"burrow/mark"
	"burrow/sched"
	"burrow/seat"
)

// epoch is what a member holds of the epoch that it is in.
type epoch struct {
	group              api.Sum
	number             int
	nodes              api.Tree
	digest             api.Sum // of the nodes
	leaf               int
	keys               map[int]api.Key // the secret keys that it knows, by node
	secrets            api.Secrets
	confirmed, interim api.Sum
	cached             []api.Proposal
	updates            map[api.Key]api.Key // the secret keys of its own Updates, by the public ones
}

// begin is an epoch whose secrets aren't known yet.
func begin(group api.Sum, number int, nodes api.Tree, leaf int, keys map[int]api.Key) *epoch {
	digest, _ := mark.Tree(nodes) // the callers' trees are valid
	return &epoch{group: group, number: number, nodes: nodes, digest: digest, leaf: leaf, keys: keys, updates: map[api.Key]api.Key{}}
}

// context is its context with a confirmed transcript.
func (e *epoch) context(confirmed api.Sum) []byte {
	return sched.Context(e.group, e.number, e.digest, confirmed)
}

// settle gives it its secrets and transcripts, and returns its tag.
func (e *epoch) settle(secrets api.Secrets, confirmed api.Sum) api.Sum {
	tag := sched.Tag(secrets, confirmed)
	e.secrets, e.confirmed, e.interim = secrets, confirmed, sched.Interim(confirmed, tag)
	return tag
}

// follow settles the epoch that a commit leads to, and returns its tag.
func (e *epoch) follow(before *epoch, c api.Commit, secret api.Sum) (api.Sum, error) {
	text, err := commit.Text(c)
	if err != nil {
		return api.Sum{}, err
	}
	confirmed := sched.Confirmed(before.interim, text, c.Sig)
	return e.settle(sched.Next(before.secrets.Init, secret, e.context(confirmed)), confirmed), nil
}

func (e *epoch) leaves() int {
	return seat.Leaves(len(e.nodes))
}

// used tells whether i is a used leaf of a tree.
func used(t api.Tree, i int) bool {
	return i >= 0 && i < seat.Leaves(len(t)) && t[2*i].Used
}

func (e *epoch) nameAt(leaf int) int {
	if !used(e.nodes, leaf) {
		return -1
	}
	return e.nodes[2*leaf].Name
}

// passing is what is told of it.
func (e *epoch) passing() Passing {
	p := Passing{Group: e.group, Epoch: e.number, Packets: e.secrets.Packets, Leaves: e.leaves(), Leaf: e.leaf}
	for i := range p.Leaves {
		p.Names = append(p.Names, e.nameAt(i))
	}
	return p
}
