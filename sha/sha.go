// Package sha is layer 1: the digests SHA-256 (short) and SHA-512 (long).
package sha

import "burrow/api"

// Short returns the short digest of the parts, one after another.
func Short(parts ...[]byte) api.Sum {
	d := New()
	for _, part := range parts {
		d.Add(part)
	}
	return d.Sum()
}

// Long returns the long digest of the parts, one after another.
func Long(parts ...[]byte) api.Wide {
	d := newLong()
	for _, part := range parts {
		d.add(part)
	}
	return d.sum()
}

// padding is what follows a text of that many bytes, so that whole blocks result; its last bytes, as many as tail, are the number of the text's bits.
func padding(many, block, tail int) []byte {
	fill := (block - (many+1+tail)%block) % block
	out := make([]byte, 1+fill+tail)
	out[0] = 0x80
	low, high := uint64(many)<<3, uint64(many)>>61
	for i := range tail {
		b := byte(low)
		out[len(out)-1-i] = b
		low = low>>8 | high<<56
		high >>= 8
	}
	return out
}
