package tree

import (
	"slices"

	"burrow/api"
	"burrow/seat"
)

// Check returns nil if the tree is valid.
func Check(t api.Tree) error {
	if seat.Leaves(len(t)) == 0 || !namesDiffer(t) || !rightUsed(t) {
		return api.ErrForm
	}
	for x, n := range t {
		if !n.Used && !same(n, api.Node{}) || n.Used && !usedWell(t, x) {
			return api.ErrForm
		}
	}
	return nil
}

// namesDiffer tells whether no two used leaves have the same name.
func namesDiffer(t api.Tree) bool {
	many := make(map[int]int, len(t))
	for x := 0; x < len(t); x += 2 {
		if t[x].Used {
			many[t[x].Name]++
			if many[t[x].Name] > 1 {
				return false
			}
		}
	}
	return true
}

// rightUsed tells whether a leaf of the right half is used; of one leaf, this one.
func rightUsed(t api.Tree) bool {
	for i := seat.Leaves(len(t)) / 2; 2*i < len(t); i++ {
		if t[2*i].Used {
			return true
		}
	}
	return false
}

// usedWell tells whether a used node is as it must be.
func usedWell(t api.Tree, x int) bool {
	n := t[x]
	if x%2 == 0 {
		return sound(n)
	}
	if n.Name != 0 || n.Sign != (api.Key{}) {
		return false
	}
	for k, i := range n.Unmerged {
		if k > 0 && n.Unmerged[k-1] >= i || !unmergedWell(t, x, i) {
			return false
		}
	}
	return true
}

// unmergedWell tells whether leaf i may be unmerged at x: it is used, and unmerged at each used node on the way up to x.
func unmergedWell(t api.Tree, x, i int) bool {
	leaves := seat.Leaves(len(t))
	first, last := seat.Below(x, leaves)
	if i < first || i > last || !t[2*i].Used {
		return false
	}
	for up := range seat.Path(2*i, leaves) {
		if up == x {
			break
		}
		if t[up].Used && !slices.Contains(t[up].Unmerged, i) {
			return false
		}
	}
	return true
}
