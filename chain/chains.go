// Package chain is layer 19: keys for packets, each of which is used once.
package chain

import (
	"burrow/api"
	"burrow/kdf"
	"burrow/seat"
)

// Once is a key that is used once, with its nonce.
type Once struct {
	Number int
	Key    api.Key
	Nonce  []byte
}

// Chains is the chains of an epoch, one for each leaf.
type Chains struct {
	leaves []*chain
}

// New returns the chains of an epoch with so many leaves.
func New(packets api.Sum, leaves int) *Chains {
	c := &Chains{}
	if root := seat.Root(leaves); root >= 0 {
		c.grow(packets, root)
	}
	return c
}

// grow begins the chains of the leaves below x, from the left to the right. The secrets above leaves aren't kept.
func (c *Chains) grow(secret api.Sum, x int) {
	left, right := seat.Children(x)
	if left < 0 {
		c.leaves = append(c.leaves, &chain{secret: secret, skipped: map[int]material{}})
		return
	}
	c.grow(kdf.Derive(secret, "left"), left)
	c.grow(kdf.Derive(secret, "right"), right)
}

// at is the chain of a leaf; nil if there is none.
func (c *Chains) at(leaf int) *chain {
	if c == nil || leaf < 0 || leaf >= len(c.leaves) {
		return nil
	}
	return c.leaves[leaf]
}

// Next returns what the leaf's place has, which counts as requested then.
func (c *Chains) Next(leaf int) (Once, error) {
	h := c.at(leaf)
	if h == nil {
		return Once{}, api.ErrMember
	}
	return c.Take(leaf, h.place)
}

// Take returns what a number has, which counts as requested then.
func (c *Chains) Take(leaf, number int) (Once, error) {
	h := c.at(leaf)
	if h == nil {
		return Once{}, api.ErrMember
	}
	if err := h.check(number); err != nil {
		return Once{}, err
	}
	return h.take(number)
}

// Look returns what Take would return.
func (c *Chains) Look(leaf, number int) (Once, error) {
	h := c.at(leaf)
	if h == nil {
		return Once{}, api.ErrMember
	}
	if err := h.check(number); err != nil {
		return Once{}, err
	}
	return h.look(number), nil
}

// Place returns a leaf's place; -1 if there is no such leaf.
func (c *Chains) Place(leaf int) int {
	h := c.at(leaf)
	if h == nil {
		return -1
	}
	return h.place
}

// Held returns how many skipped keys of a leaf are kept.
func (c *Chains) Held(leaf int) int {
	h := c.at(leaf)
	if h == nil {
		return 0
	}
	return len(h.skipped)
}

// Jump sets a leaf's place, if the given one isn't less, and reports whether it did.
func (c *Chains) Jump(leaf, number int) bool {
	h := c.at(leaf)
	return h != nil && h.jump(number)
}
