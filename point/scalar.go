package point

import (
	"iter"
	"math/bits"

	"burrow/api"
	"burrow/field"
)

// order is the group's order, the lowest word first.
var order = [4]uint64{0x5812631a5cf5d3ed, 0x14def9dea2f79cd6, 0, 0x1000000000000000}

// scalar is a number below the order, the lowest word first.
type scalar [4]uint64

// Reduce returns the residue of at most 64 bytes, and true.
func Reduce(b []byte) (api.Key, bool) {
	if len(b) > 64 {
		return api.Key{}, false
	}
	return residue(b).bytes(), true
}

// MulAdd returns the residue of a b + c.
func MulAdd(a, b, c api.Key) api.Key {
	each := residue(b[:])
	var out scalar
	for bit := range field.Bits(a) {
		out = out.plus(out)
		if bit == 1 {
			out = out.plus(each)
		}
	}
	return out.plus(residue(c[:])).bytes()
}

// Residue reports whether the bytes are a residue.
func Residue(b api.Key) bool {
	return residue(b[:]).bytes() == b
}

func residue(b []byte) scalar {
	var out scalar
	for bit := range bitsOf(b) {
		out = out.plus(out)
		if bit == 1 {
			out = out.plus(scalar{1})
		}
	}
	return out
}

// bitsOf is the bits of bytes, from the highest on.
func bitsOf(b []byte) iter.Seq[int] {
	return func(yield func(int) bool) {
		for i := 8*len(b) - 1; i >= 0; i-- {
			if !yield(int(b[i/8]>>(i%8)) & 1) {
				return
			}
		}
	}
}

// plus returns the sum modulo the order.
func (a scalar) plus(b scalar) scalar {
	carry, borrow := uint64(0), uint64(0)
	less := a
	for i := range a {
		a[i], carry = bits.Add64(a[i], b[i], carry)
		less[i], borrow = bits.Sub64(a[i], order[i], borrow)
	}
	if borrow == 1 {
		return a
	}
	return less
}

func (a scalar) bytes() api.Key {
	var out api.Key
	for i := range out {
		out[i] = byte(a[i/8] >> (8 * (i % 8)))
	}
	return out
}
