package sha

import (
	"math/bits"

	"burrow/api"
)

// long is a long digest of the bytes that were added so far.
type long struct {
	state [8]uint64
	block [128]byte // its first many%128 bytes aren't in the state yet
	many  int
}

func newLong() *long {
	return &long{state: squares}
}

func (d *long) add(b []byte) {
	for len(b) > 0 {
		n := copy(d.block[d.many%128:], b)
		b = b[n:]
		d.many += n
		if d.many%128 == 0 {
			d.turn()
		}
	}
}

// sum ends the digest: nothing may be added afterwards.
func (d *long) sum() api.Wide {
	d.add(padding(d.many, 128, 16))
	var out api.Wide
	for i, w := range d.state {
		for k := range 8 {
			out[8*i+k] = byte(w >> (56 - 8*k))
		}
	}
	return out
}

// turn takes the full block into the state.
func (d *long) turn() {
	words := spreadLong(d.block)
	s := d.state
	a, b, c, x, e, f, g, h := s[0], s[1], s[2], s[3], s[4], s[5], s[6], s[7]
	for i, word := range words {
		s1 := bits.RotateLeft64(e, -14) ^ bits.RotateLeft64(e, -18) ^ bits.RotateLeft64(e, -41)
		s0 := bits.RotateLeft64(a, -28) ^ bits.RotateLeft64(a, -34) ^ bits.RotateLeft64(a, -39)
		t1 := h + s1 + (e&f ^ ^e&g) + cubes[i] + word
		t2 := s0 + (a&b ^ a&c ^ b&c)
		h, g, f, e, x, c, b, a = g, f, e, x+t1, c, b, a, t1+t2
	}
	for i, w := range [8]uint64{a, b, c, x, e, f, g, h} {
		d.state[i] += w
	}
}

// spreadLong makes a block's 80 words.
func spreadLong(block [128]byte) [80]uint64 {
	var w [80]uint64
	for i := range 16 {
		for _, b := range block[8*i : 8*i+8] {
			w[i] = w[i]<<8 | uint64(b)
		}
	}
	for i := 16; i < 80; i++ {
		x, y := w[i-2], w[i-15]
		s1 := bits.RotateLeft64(x, -19) ^ bits.RotateLeft64(x, -61) ^ x>>6
		s0 := bits.RotateLeft64(y, -1) ^ bits.RotateLeft64(y, -8) ^ y>>7
		w[i] = s1 + w[i-7] + s0 + w[i-16]
	}
	return w
}
