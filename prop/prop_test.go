package prop_test

import (
	"bytes"
	"errors"
	"math"
	"math/rand"
	"slices"
	"testing"

	"burrow/api"
	"burrow/prop"
	"burrow/sign"
	"burrow/tree"
	"burrow/wire"
)

// is tells whether an error is the one that is wanted, or both are none.
func is(err, want error) bool {
	if want == nil {
		return err == nil
	}
	return errors.Is(err, want)
}

func seed(name int) api.Key { return api.Key{byte(name), 7} }

func leaf(name, key int) api.Node {
	return api.Node{Used: true, Name: name, Key: api.Key{byte(key), byte(key >> 8), 1}, Sign: sign.Public(seed(name))}
}

var (
	group = api.Sum{1, 2}
	base  = api.Sum{3, 4}
)

const epoch = 5

// of is a tree of names 0, 1, .. at the leaves of the same numbers, used nodes above them.
func of(many int) api.Tree {
	t := api.Tree{leaf(0, 0)}
	for name := 1; name < many; name++ {
		t, _, _ = tree.Add(t, leaf(name, name))
	}
	for x := 1; x < len(t); x += 2 {
		t[x] = api.Node{Used: true, Key: api.Key{byte(x), 9}}
	}
	return t
}

func add(from, name int) api.Proposal {
	return api.Proposal{Group: group, Epoch: epoch, From: from, Base: base, Kind: api.Add, Leaf: leaf(name, 500+name), Start: api.Key{byte(name)}}
}

func update(from, key int) api.Proposal {
	return api.Proposal{Group: group, Epoch: epoch, From: from, Base: base, Kind: api.Update, Leaf: leaf(from, key)}
}

func remove(from, at int) api.Proposal {
	return api.Proposal{Group: group, Epoch: epoch, From: from, Base: base, Kind: api.Remove, At: at}
}

// signed is a proposal, signed by the member of its leaf.
func signed(p api.Proposal) api.Proposal {
	out, err := prop.Sign(p, seed(p.From))
	if err != nil {
		panic(err)
	}
	return out
}

func same(a, b api.Proposal) bool {
	x, err := wire.PutProposal(a)
	y, err2 := wire.PutProposal(b)
	return err == nil && err2 == nil && bytes.Equal(x, y)
}

func zero(p api.Proposal) bool {
	return tree.Same(api.Tree{p.Leaf}, api.Tree{{}}) && p.Group == api.Sum{} && p.Epoch == 0 && p.From == 0 && p.Kind == 0 && p.Sig == api.Wide{}
}

func TestTextAndSign(t *testing.T) {
	for i, p := range []api.Proposal{add(0, 9), update(1, 300), remove(2, 1), {Kind: api.Remove}, {Kind: api.Add}} {
		for _, sig := range []api.Wide{{}, {1, 2}} {
			p.Sig = sig
			b, _ := wire.PutProposal(p)
			text, err := prop.Text(p)
			if err != nil || !bytes.Equal(text, b[:len(b)-64]) {
				t.Error("text", i, err)
			}
			got, err := prop.Sign(p, seed(4))
			want := p
			want.Sig = sign.Sign(seed(4), text)
			if err != nil || !same(got, want) {
				t.Error("sign", i, err)
			}
		}
	}
}

// unwritable are proposals that can't be encoded.
func unwritable() []api.Proposal {
	list := []api.Proposal{{}, {Kind: 4}, {Kind: -1}, {Kind: api.Remove, At: 32}, {Kind: api.Remove, At: -1}}
	for _, p := range []api.Proposal{add(0, 9), update(1, 300), remove(2, 1)} {
		for _, change := range []func(p *api.Proposal){
			func(p *api.Proposal) { p.From = -1 },
			func(p *api.Proposal) { p.From = 32 },
			func(p *api.Proposal) { p.Epoch = -1 },
			func(p *api.Proposal) { p.Epoch = 1 << 32 },
			func(p *api.Proposal) { p.Leaf.Name = 256 },
			func(p *api.Proposal) { p.Leaf.Unmerged = []int{2, 1} },
			func(p *api.Proposal) { p.At = 77 },
		} {
			q := p
			change(&q)
			list = append(list, q)
		}
	}
	return list
}

func TestUnwritable(t *testing.T) {
	for i, p := range unwritable() {
		if b, err := prop.Text(p); !errors.Is(err, api.ErrForm) || b != nil {
			t.Error("text", i, err)
		}
		if q, err := prop.Sign(p, seed(1)); !errors.Is(err, api.ErrForm) || !zero(q) {
			t.Error("sign", i, err)
		}
		if err := prop.Check(of(4), p, p.Group, p.Epoch, p.Base); !errors.Is(err, api.ErrForm) {
			t.Error("check", i, err)
		}
	}
}

func TestGoodProposals(t *testing.T) {
	x := of(4)
	for i, p := range []api.Proposal{add(0, 9), add(3, 255), add(3, 4), update(1, 300), update(0, 77), remove(2, 1), remove(1, 1), remove(0, 3)} {
		p = signed(p)
		if err := prop.Check(x, p, group, epoch, base); err != nil {
			t.Error(i, err)
		}
	}
	p := add(0, 9)
	p.Leaf.Unmerged, p.Leaf.Key = []int{}, api.Key{}
	if err := prop.Check(x, signed(p), group, epoch, base); err != nil {
		t.Error("an empty list, any key", err)
	}
	late := remove(2, 1)
	late.Epoch = 1<<32 - 1
	if err := prop.Check(x, signed(late), group, 1<<32-1, base); err != nil {
		t.Error("the last epoch", err)
	}
}

// bad is a proposal that is wrong, and how.
type bad struct {
	what string
	p    api.Proposal
	want error
}

func changed(p api.Proposal, change func(p *api.Proposal)) api.Proposal {
	change(&p)
	return signed(p)
}

// wrong are proposals that aren't valid for of(4), the third leaf of which is gone.
func wrong() []bad {
	out := []bad{
		{"group", changed(remove(0, 1), func(p *api.Proposal) { p.Group[31]++ }), api.ErrEpoch},
		{"epoch", changed(remove(0, 1), func(p *api.Proposal) { p.Epoch++ }), api.ErrEpoch},
		{"earlier", changed(remove(0, 1), func(p *api.Proposal) { p.Epoch-- }), api.ErrEpoch},
		{"base", changed(remove(0, 1), func(p *api.Proposal) { p.Base[31]++ }), api.ErrEpoch},
		{"base and proposer", changed(remove(9, 1), func(p *api.Proposal) { p.Base[31]++ }), api.ErrEpoch},
		{"base and signature", remove(0, 1), api.ErrAuth},
		{"no leaf", signed(remove(4, 1)), api.ErrMember},
		{"no leaf", signed(remove(31, 1)), api.ErrMember},
		{"a leaf that isn't used", signed(remove(2, 1)), api.ErrMember},
		{"no leaf, not signed", remove(2, 1), api.ErrMember},
		{"not signed, name is there", add(0, 1), api.ErrAuth},
		{"not signed, nobody there", remove(0, 2), api.ErrAuth},
		{"add, not used", changed(add(0, 9), func(p *api.Proposal) { p.Leaf = api.Node{} }), api.ErrForm},
		{"add, unmerged", changed(add(0, 9), func(p *api.Proposal) { p.Leaf.Unmerged = []int{0} }), api.ErrForm},
		{"add, parent", changed(add(0, 9), func(p *api.Proposal) { p.Leaf.Parent[31] = 1 }), api.ErrForm},
		{"add, parent and name", changed(add(0, 1), func(p *api.Proposal) { p.Leaf.Parent[0] = 1 }), api.ErrForm},
		{"add, name", signed(add(0, 0)), api.ErrMember},
		{"add, name", signed(add(0, 3)), api.ErrMember},
		{"update, not used", changed(update(1, 9), func(p *api.Proposal) { p.Leaf = api.Node{} }), api.ErrForm},
		{"update, unmerged", changed(update(1, 9), func(p *api.Proposal) { p.Leaf.Unmerged = []int{1} }), api.ErrForm},
		{"update, parent", changed(update(1, 9), func(p *api.Proposal) { p.Leaf.Parent[31] = 1 }), api.ErrForm},
		{"update, name", changed(update(1, 9), func(p *api.Proposal) { p.Leaf.Name = 9 }), api.ErrForm},
		{"update, another's name", changed(update(1, 9), func(p *api.Proposal) { p.Leaf.Name = 3 }), api.ErrForm},
		{"update, sign", changed(update(1, 9), func(p *api.Proposal) { p.Leaf.Sign[31]++ }), api.ErrForm},
		{"update, the same key", signed(update(1, 1)), api.ErrForm},
		{"remove, not used", signed(remove(0, 2)), api.ErrMember},
		{"remove, no leaf", signed(remove(0, 4)), api.ErrMember},
		{"remove, no leaf", signed(remove(0, 31)), api.ErrMember},
	}
	for _, p := range []api.Proposal{signed(add(0, 9)), signed(update(1, 9)), signed(remove(0, 1))} {
		for _, i := range []int{0, 31, 32, 63} {
			q := p
			q.Sig[i] ^= 1
			out = append(out, bad{"signature", q, api.ErrAuth})
		}
		q, _ := prop.Sign(p, seed(3))
		out = append(out, bad{"another one's signature", q, api.ErrAuth})
		q = p
		q.From = 3
		out = append(out, bad{"another proposer", q, api.ErrAuth})
	}
	q := signed(remove(0, 1))
	q.At = 3
	return append(out, bad{"another text", q, api.ErrAuth})
}

func TestWrongProposals(t *testing.T) {
	x, _ := tree.Remove(of(4), 2)
	for _, b := range wrong() {
		if err := prop.Check(x, b.p, group, epoch, base); !errors.Is(err, b.want) {
			t.Error(b.what, err, b.want)
		}
		for _, list := range [][]api.Proposal{{b.p}, {signed(add(1, 20)), b.p}, {b.p, api.Proposal{}}} {
			if out, added, err := prop.Apply(x, list, 0, group, epoch, base); !errors.Is(err, b.want) || out != nil || added != nil {
				t.Error("apply", b.what, err, b.want)
			}
		}
	}
	good := signed(remove(0, 1))
	for _, y := range []api.Tree{nil, x[:6], make(api.Tree, 7)} {
		if err := prop.Check(y, good, group, epoch, base); !errors.Is(err, api.ErrForm) {
			t.Error("no tree", err)
		}
		if err := prop.Check(y, good, base, epoch, base); !errors.Is(err, api.ErrForm) {
			t.Error("the tree comes first", err)
		}
		if out, added, err := prop.Apply(y, nil, 99, group, epoch, base); !errors.Is(err, api.ErrForm) || out != nil || added != nil {
			t.Error("apply to no tree", err)
		}
	}
}

func TestApplyNothing(t *testing.T) {
	x := of(5)
	for _, i := range []int{-1, 5, 7, 8, 32, math.MinInt, math.MaxInt} {
		if out, added, err := prop.Apply(x, []api.Proposal{{}}, i, group, epoch, base); !errors.Is(err, api.ErrMember) || out != nil || added != nil {
			t.Error("committer", i, err)
		}
	}
	out, added, err := prop.Apply(x, nil, 1, group, epoch, base)
	if err != nil || len(added) != 0 || !tree.Same(out, x) {
		t.Error("an empty list", err)
	}
	out[0].Name = 77
	if x[0].Name != 0 {
		t.Error("the result shares")
	}
}

// expected is what comes of a list, by the definition.
func expected(x api.Tree, list []api.Proposal, committer int) (api.Tree, []int, error) {
	leaves, names := map[int]bool{}, map[int]bool{}
	for _, p := range list {
		if err := prop.Check(x, p, group, epoch, base); err != nil {
			return nil, nil, err
		}
		at, fresh := p.At, false
		switch p.Kind {
		case api.Add:
			fresh = !names[p.Leaf.Name]
			names[p.Leaf.Name] = true
		case api.Update:
			at = p.From
			fallthrough
		case api.Remove:
			fresh = !leaves[at] && at != committer
			leaves[at] = true
		}
		if !fresh {
			return nil, nil, api.ErrState
		}
	}
	var added []int
	for _, kind := range []int{api.Update, api.Remove, api.Add} {
		for _, p := range list {
			var err error
			switch i := 0; {
			case p.Kind != kind:
			case kind == api.Add:
				x, i, err = tree.Add(x, p.Leaf)
				added = append(added, i)
			case kind == api.Update:
				x, err = tree.Update(x, p.From, p.Leaf)
			default:
				x, err = tree.Remove(x, p.At)
			}
			if err != nil {
				return nil, nil, err
			}
		}
	}
	return x, added, nil
}

func TestLists(t *testing.T) {
	r := rand.New(rand.NewSource(1))
	good, wrong := 0, 0
	for range 120 {
		many := 1 + r.Intn(9)
		x := of(many)
		if many > 2 && r.Intn(2) == 0 {
			x, _ = tree.Remove(x, r.Intn(many-1))
		}
		var list []api.Proposal
		for range r.Intn(6) {
			from := r.Intn(many)
			switch r.Intn(3) {
			case 0:
				list = append(list, signed(add(from, many+r.Intn(12))))
			case 1:
				list = append(list, signed(update(from, 300+r.Intn(3))))
			case 2:
				list = append(list, signed(remove(from, r.Intn(many))))
			}
		}
		committer := r.Intn(many)
		if !x[2*committer].Used {
			continue
		}
		want, leaves, wantErr := expected(x, list, committer)
		out, added, err := prop.Apply(x, list, committer, group, epoch, base)
		if !is(err, wantErr) || !tree.Same(out, want) || !slices.Equal(added, leaves) {
			t.Fatal("apply", err, wantErr)
		}
		if err != nil {
			wrong++
			continue
		}
		good++
		if tree.Check(out) != nil || !out[2*committer].Used {
			t.Fatal("no tree with the committer")
		}
	}
	if good < 30 || wrong < 30 {
		t.Error("too few of a kind", good, wrong)
	}
}

func TestListsThatClash(t *testing.T) {
	x := of(6)
	for i, list := range [][]api.Proposal{
		{update(2, 300)},
		{remove(0, 2)},
		{remove(2, 2)},
		{update(1, 300), update(1, 301)},
		{update(1, 300), remove(0, 1)},
		{remove(0, 1), update(1, 300)},
		{remove(0, 1), remove(3, 1)},
		{remove(0, 1), remove(0, 1)},
		{add(0, 9), add(1, 9)},
		{add(0, 9), add(0, 10), update(1, 300), add(0, 9)},
		{add(0, 9), remove(0, 3), update(4, 300), update(2, 9)},
	} {
		var all []api.Proposal
		for _, p := range list {
			all = append(all, signed(p))
		}
		if out, added, err := prop.Apply(x, all, 2, group, epoch, base); !errors.Is(err, api.ErrState) || out != nil || added != nil {
			t.Error(i, err)
		}
		if len(all) > 1 {
			if _, _, err := prop.Apply(x, all[:len(all)-1], 2, group, epoch, base); err != nil {
				t.Error("without the last", i, err)
			}
		}
		wrongFirst := append([]api.Proposal{remove(0, 5)}, all...)
		if _, _, err := prop.Apply(x, wrongFirst, 2, group, epoch, base); !errors.Is(err, api.ErrAuth) {
			t.Error("what comes first", i, err)
		}
		wrongLast := append(slices.Clone(all), remove(0, 5))
		if _, _, err := prop.Apply(x, wrongLast, 2, group, epoch, base); !errors.Is(err, api.ErrState) {
			t.Error("what comes last", i, err)
		}
	}
	names := []api.Proposal{signed(add(0, 9)), signed(remove(0, 3)), signed(update(1, 300)), signed(add(1, 1+6))}
	if _, _, err := prop.Apply(x, names, 2, group, epoch, base); err != nil {
		t.Error("a leaf and a name of one number don't clash", err)
	}
}

func TestOrderOfChanges(t *testing.T) {
	x := of(4)
	list := []api.Proposal{signed(add(0, 20)), signed(add(1, 21)), signed(remove(0, 1)), signed(update(3, 300)), signed(add(2, 22))}
	out, added, err := prop.Apply(x, list, 0, group, epoch, base)
	if err != nil || !slices.Equal(added, []int{1, 4, 5}) {
		t.Fatal("added", added, err)
	}
	if out[2].Name != 20 || out[8].Name != 21 || out[10].Name != 22 || out[6].Key != (api.Key{44, 1, 1}) {
		t.Error("leaves")
	}
	if out[3].Used || out[5].Used || out[1].Used {
		t.Error("nodes that must be zero")
	}
}

func TestFull(t *testing.T) {
	x := of(32)
	one, two := signed(add(0, 40)), signed(add(0, 41))
	if out, added, err := prop.Apply(x, []api.Proposal{one}, 0, group, epoch, base); !errors.Is(err, api.ErrFull) || out != nil || added != nil {
		t.Error("one too many", err)
	}
	gone := signed(remove(0, 7))
	if _, added, err := prop.Apply(x, []api.Proposal{one, gone}, 0, group, epoch, base); err != nil || !slices.Equal(added, []int{7}) {
		t.Error("a leaf that gets free", added, err)
	}
	if _, _, err := prop.Apply(x, []api.Proposal{one, two, gone}, 0, group, epoch, base); !errors.Is(err, api.ErrFull) {
		t.Error("one too many", err)
	}
	if _, _, err := prop.Apply(x, []api.Proposal{one, two, gone, gone}, 0, group, epoch, base); !errors.Is(err, api.ErrState) {
		t.Error("what makes the list invalid comes first", err)
	}
}

func TestArgumentsStay(t *testing.T) {
	x := of(6)
	kept := tree.Copy(x)
	list := make([]api.Proposal, 0, 9)
	list = append(list, signed(add(0, 20)), signed(remove(0, 5)), signed(update(3, 300)))
	list[0].Leaf.Unmerged = make([]int, 0, 4)
	out, _, err := prop.Apply(x, list, 1, group, epoch, base)
	if err != nil || !tree.Same(x, kept) || len(list) != 3 || !zero(list[:4][3]) {
		t.Error("an argument was changed", err)
	}
	want := tree.Copy(out)
	for i := range x {
		for k := range x[i].Unmerged {
			x[i].Unmerged[k] = 77
		}
		x[i] = api.Node{}
	}
	if !tree.Same(out, want) {
		t.Error("the result shares with the tree")
	}
	p := add(0, 9)
	p.Leaf.Unmerged = []int{3, 4}
	q, err := prop.Sign(p, seed(0))
	if err != nil {
		t.Fatal(err)
	}
	p.Leaf.Unmerged[0] = 1
	if q.Leaf.Unmerged[0] != 3 {
		t.Error("what was signed shares")
	}
}
