package sha_test

import (
	"bytes"
	"crypto/sha256"
	"crypto/sha512"
	"encoding/hex"
	"math/rand"
	"testing"

	"burrow/api"
	"burrow/sha"
)

// text makes bytes that differ from place to place.
func text(n int) []byte {
	b := make([]byte, n)
	rand.New(rand.NewSource(int64(n))).Read(b)
	return b
}

// lengths are all the short ones, and those around whole blocks.
func lengths() []int {
	var out []int
	for n := range 300 {
		out = append(out, n)
	}
	for _, blocks := range []int{8, 16, 100, 1024} {
		for d := -20; d <= 20; d++ {
			out = append(out, 64*blocks+d)
		}
	}
	return append(out, 1<<20+3)
}

func TestKnownDigests(t *testing.T) {
	short := sha.Short([]byte("abc"))
	if got := hex.EncodeToString(short[:]); got != "ba7816bf8f01cfea414140de5dae2223b00361a396177a9cb410ff61f20015ad" {
		t.Error("short of abc:", got)
	}
	long := sha.Long([]byte("abc"))
	if got := hex.EncodeToString(long[:]); got != "ddaf35a193617abacc417349ae20413112e6fa4e89a97ea20a9eeee64b55d39a2192992a274fc1a836ba3c23a3feebbd454d4423643ce80e2a9ac94fa54ca49f" {
		t.Error("long of abc:", got)
	}
}

func TestDigestsOfAllLengths(t *testing.T) {
	for _, n := range lengths() {
		b := text(n)
		if sha.Short(b) != sha256.Sum256(b) {
			t.Fatal("short", n)
		}
		if sha.Long(b) != sha512.Sum512(b) {
			t.Fatal("long", n)
		}
		d := sha.New()
		d.Add(b)
		if d.Sum() != sha256.Sum256(b) || d.Len() != n {
			t.Fatal("digest", n)
		}
	}
}

func TestNoParts(t *testing.T) {
	if sha.Short() != sha256.Sum256(nil) || sha.Short(nil) != sha256.Sum256(nil) || sha.Short(nil, []byte{}, nil) != sha256.Sum256(nil) {
		t.Error("short")
	}
	if sha.Long() != sha512.Sum512(nil) || sha.Long(nil) != sha512.Sum512(nil) || sha.Long(nil, []byte{}, nil) != sha512.Sum512(nil) {
		t.Error("long")
	}
	if d := sha.New(); d.Sum() != sha256.Sum256(nil) || d.Len() != 0 {
		t.Error("digest")
	}
}

// split cuts a text into parts of random lengths, empty ones among them.
func split(b []byte, r *rand.Rand) [][]byte {
	var parts [][]byte
	for len(b) > 0 {
		n := min(r.Intn(1+r.Intn(200)), len(b))
		parts = append(parts, b[:n])
		b = b[n:]
	}
	return append(parts, nil)
}

func TestPartsDontMatter(t *testing.T) {
	r := rand.New(rand.NewSource(1))
	for range 300 {
		b := text(r.Intn(1500))
		parts := split(b, r)
		if sha.Short(parts...) != sha256.Sum256(b) {
			t.Fatal("short", len(b))
		}
		if sha.Long(parts...) != sha512.Sum512(b) {
			t.Fatal("long", len(b))
		}
		d := sha.New()
		for _, p := range parts {
			d.Add(p)
		}
		if d.Sum() != sha256.Sum256(b) || d.Len() != len(b) {
			t.Fatal("digest", len(b))
		}
	}
	for cut := range 260 {
		b := text(260)
		if sha.Short(b[:cut], b[cut:]) != sha256.Sum256(b) || sha.Long(b[:cut], b[cut:]) != sha512.Sum512(b) {
			t.Fatal("two parts", cut)
		}
	}
}

func TestSumsOnTheWay(t *testing.T) {
	b := text(400)
	d, other := sha.New(), sha.New()
	for n := range b {
		if d.Len() != n || d.Sum() != sha256.Sum256(b[:n]) || d.Sum() != sha256.Sum256(b[:n]) {
			t.Fatal("after", n)
		}
		d.Add(b[n : n+1])
		d.Add(nil)
		if other.Len() != 0 || other.Sum() != sha256.Sum256(nil) {
			t.Fatal("another digest changed")
		}
	}
}

func TestNilDigest(t *testing.T) {
	var d *sha.Digest
	d.Add([]byte("abc"))
	d.Add(nil)
	if d.Sum() != (api.Sum{}) || d.Len() != 0 {
		t.Error("nil digest")
	}
}

func TestArgumentsStay(t *testing.T) {
	for _, n := range []int{0, 1, 55, 63, 64, 65, 111, 127, 128, 129, 200} {
		whole := text(n + 300)
		kept := bytes.Clone(whole)
		part := whole[:n]
		parts := make([][]byte, 1, 4)
		parts[0] = part
		d := sha.New()
		d.Add(part)
		sha.Short(parts...)
		sha.Long(parts...)
		d.Sum()
		if !bytes.Equal(whole, kept) || parts[:2][1] != nil || len(parts[0]) != n {
			t.Fatal("an argument was changed", n)
		}
		clear(whole)
		if d.Sum() != sha256.Sum256(kept[:n]) {
			t.Fatal("an argument was kept", n)
		}
	}
}
