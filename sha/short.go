package sha

import (
	"math/bits"

	"burrow/api"
)

// Digest is a short digest of the bytes that were added so far.
type Digest struct {
	state [8]uint32
	block [64]byte // its first many%64 bytes aren't in the state yet
	many  int
}

// New returns a digest of no bytes.
func New() *Digest {
	d := &Digest{}
	for i, w := range squares {
		d.state[i] = uint32(w >> 32)
	}
	return d
}

// Add adds bytes.
func (d *Digest) Add(b []byte) {
	if d == nil {
		return
	}
	for len(b) > 0 {
		n := copy(d.block[d.many%64:], b)
		b = b[n:]
		d.many += n
		if d.many%64 == 0 {
			d.turn()
		}
	}
}

// Sum returns the digest of all bytes that were added.
func (d *Digest) Sum() api.Sum {
	var out api.Sum
	if d == nil {
		return out
	}
	end := *d // more bytes may follow, so the padding goes into a copy
	end.Add(padding(d.many, 64, 8))
	for i, w := range end.state {
		for k := range 4 {
			out[4*i+k] = byte(w >> (24 - 8*k))
		}
	}
	return out
}

// Len returns how many bytes were added.
func (d *Digest) Len() int {
	if d == nil {
		return 0
	}
	return d.many
}

// turn takes the full block into the state.
func (d *Digest) turn() {
	words := spreadShort(d.block)
	s := d.state
	a, b, c, x, e, f, g, h := s[0], s[1], s[2], s[3], s[4], s[5], s[6], s[7]
	for i, word := range words {
		s1 := bits.RotateLeft32(e, -6) ^ bits.RotateLeft32(e, -11) ^ bits.RotateLeft32(e, -25)
		s0 := bits.RotateLeft32(a, -2) ^ bits.RotateLeft32(a, -13) ^ bits.RotateLeft32(a, -22)
		t1 := h + s1 + (e&f ^ ^e&g) + uint32(cubes[i]>>32) + word
		t2 := s0 + (a&b ^ a&c ^ b&c)
		h, g, f, e, x, c, b, a = g, f, e, x+t1, c, b, a, t1+t2
	}
	for i, w := range [8]uint32{a, b, c, x, e, f, g, h} {
		d.state[i] += w
	}
}

// spreadShort makes a block's 64 words.
func spreadShort(block [64]byte) [64]uint32 {
	var w [64]uint32
	for i := range 16 {
		for _, b := range block[4*i : 4*i+4] {
			w[i] = w[i]<<8 | uint32(b)
		}
	}
	for i := 16; i < 64; i++ {
		x, y := w[i-2], w[i-15]
		s1 := bits.RotateLeft32(x, -17) ^ bits.RotateLeft32(x, -19) ^ x>>10
		s0 := bits.RotateLeft32(y, -7) ^ bits.RotateLeft32(y, -18) ^ y>>3
		w[i] = s1 + w[i-7] + s0 + w[i-16]
	}
	return w
}
