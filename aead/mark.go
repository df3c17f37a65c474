package aead

import (
	"math/bits"

	"burrow/api"
)

// pieceSize is how many bytes of a text are taken at once.
const pieceSize = 16

// number has 192 bits, the lowest word first.
type number [3]uint64

// marker is a mark under way.
type marker struct {
	r, s, sum number
	piece     [pieceSize + 1]byte // its first many bytes wait for the rest of the piece
	many      int
}

func newMarker(key api.Key) *marker {
	s := value(key[16:])
	for _, i := range [...]int{3, 7, 11, 15} {
		key[i] &= 0x0f
	}
	for _, i := range [...]int{4, 8, 12} {
		key[i] &= 0xfc
	}
	return &marker{r: value(key[:16]), s: s}
}

// value is the number of at most 24 bytes.
func value(b []byte) number {
	var out number
	for i, x := range b {
		out[i/8] |= uint64(x) << (8 * (i % 8))
	}
	return out
}

func (a number) plus(b number) number {
	carry := uint64(0)
	for i := range a {
		a[i], carry = bits.Add64(a[i], b[i], carry)
	}
	return a
}

func (m *marker) add(b []byte) {
	for len(b) > 0 {
		n := copy(m.piece[m.many:pieceSize], b)
		b = b[n:]
		m.many += n
		if m.many == pieceSize {
			m.turn()
		}
	}
}

// turn takes the piece, whole or not, into the sum.
func (m *marker) turn() {
	m.piece[m.many] = 1
	m.sum = multiply(m.sum.plus(value(m.piece[:m.many+1])), m.r)
	m.many = 0
}

// multiply returns a number below 2^131 that is the product modulo 2^130 - 5, if one factor is below 2^132, the other below 2^124.
func multiply(a, b number) number {
	var w [6]uint64
	add := func(at int, x, y uint64) {
		high, low := bits.Mul64(x, y)
		carry := uint64(0)
		w[at], carry = bits.Add64(w[at], low, 0)
		for i := at + 1; i < len(w); i++ {
			w[i], carry = bits.Add64(w[i], high, carry)
			high = 0
		}
	}
	for i, x := range a {
		for k, y := range b {
			add(i+k, x, y)
		}
	}
	// What stands above 2^130 counts five times as much as at the bottom.
	above := [2]uint64{w[2]>>2 | w[3]<<62, w[3] >> 2}
	w = [6]uint64{w[0], w[1], w[2] & 3}
	for i, x := range above {
		add(i, x, 5)
	}
	return number{w[0], w[1], w[2]}
}

// end returns the mark; nothing may be added afterwards.
func (m *marker) end() [16]byte {
	if m.many > 0 {
		m.turn()
	}
	sum := m.sum
	if less := sum.plus(number{5}); less[2] >= 4 { // the sum isn't below 2^130 - 5
		sum = less
	}
	sum = sum.plus(m.s)
	var out [16]byte
	for i := range out {
		out[i] = byte(sum[i/8] >> (8 * (i % 8)))
	}
	return out
}
