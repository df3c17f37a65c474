package path

import (
	"burrow/api"
	"burrow/box"
	"burrow/ladder"
	"burrow/seat"
)

// Learnt is what a member knows after another one's path.
type Learnt struct {
	Nodes  api.Tree
	Keys   map[int]api.Key
	Commit api.Sum
}

// Learn returns what the member of leaf own, who knows some keys, learns of a path of leaf i.
func Learn(t api.Tree, i int, x api.Path, own int, keys map[int]api.Key, info []byte, without ...int) (Learnt, error) {
	nodes, err := Put(t, i, x)
	if err != nil {
		return Learnt{}, err
	}
	if own == i || !used(t, own) {
		return Learnt{}, api.ErrMember
	}
	ways, err := Way(t, i)
	if err != nil {
		return Learnt{}, err
	}
	for k, w := range ways {
		if len(x.Steps[k].Sealed) != len(targets(t, w, i, without)) {
			return Learnt{}, api.ErrForm
		}
	}
	k := lowest(t, ways, own)
	if k == len(ways) {
		return Learnt{}, api.ErrState
	}
	secret, err := unbox(t, targets(t, ways[k], i, without), x.Steps[k].Sealed, keys, info)
	if err != nil {
		return Learnt{}, err
	}
	fresh, commit, err := follow(nodes, ways[k:], secret)
	if err != nil {
		return Learnt{}, err
	}
	out := Learnt{Nodes: nodes, Keys: still(t, nodes, keys), Commit: commit}
	for n, key := range fresh {
		out.Keys[n] = key
	}
	return out, nil
}

// lowest is the place, in a way, of its lowest node above a leaf; the way's length if there is none.
func lowest(t api.Tree, ways []int, own int) int {
	for k, w := range ways {
		if first, last := seat.Below(w, seat.Leaves(len(t))); own >= first && own <= last {
			return k
		}
	}
	return len(ways)
}

// unbox opens the text of the first node whose key is known.
func unbox(t api.Tree, nodes []int, sealed [][]byte, keys map[int]api.Key, info []byte) (api.Sum, error) {
	for k, n := range nodes {
		key, ok := keys[n]
		if !ok {
			continue
		}
		b, err := box.Open(api.Pair{Secret: key, Public: t[n].Key}, info, sealed[k])
		if err != nil {
			return api.Sum{}, err
		}
		if len(b) != len(api.Sum{}) {
			return api.Sum{}, api.ErrLen
		}
		return api.Sum(b), nil
	}
	return api.Sum{}, api.ErrState
}

// follow returns what follows from the secret of the first node: the keys, and the secret behind the last one.
func follow(t api.Tree, ways []int, secret api.Sum) (map[int]api.Key, api.Sum, error) {
	keys := make(map[int]api.Key, len(ways))
	for _, w := range ways {
		keys[w] = NodeKey(secret)
		if ladder.Public(keys[w]) != t[w].Key {
			return nil, api.Sum{}, api.ErrAuth
		}
		secret = above(secret)
	}
	return keys, secret, nil
}

// still is those of the keys whose nodes are the same in both trees.
func still(before, after api.Tree, keys map[int]api.Key) map[int]api.Key {
	out := make(map[int]api.Key, len(keys))
	for n, key := range keys {
		if n >= 0 && n < len(before) && before[n].Used && after[n].Used && before[n].Key == after[n].Key {
			out[n] = key
		}
	}
	return out
}

// From returns what follows from the secret of the lowest node of leaf i's way above leaf own.
func From(t api.Tree, i, own int, secret api.Sum, commit bool) (map[int]api.Key, api.Sum, error) {
	ways, err := Way(t, i)
	if err != nil {
		return nil, api.Sum{}, err
	}
	if own == i || !used(t, own) {
		return nil, api.Sum{}, api.ErrMember
	}
	k := lowest(t, ways, own)
	if k == len(ways) {
		return nil, api.Sum{}, api.ErrState
	}
	keys, last, err := follow(t, ways[k:], secret)
	if err != nil {
		return nil, api.Sum{}, err
	}
	if !commit {
		last = api.Sum{}
	}
	return keys, last, nil
}
