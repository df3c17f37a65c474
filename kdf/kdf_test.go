package kdf_test

import (
	"bytes"
	"crypto/hkdf"
	"crypto/hmac"
	"crypto/sha256"
	"encoding/binary"
	"encoding/hex"
	"errors"
	"math"
	"math/rand"
	"strings"
	"testing"

	"burrow/api"
	"burrow/kdf"
)

func text(n int) []byte {
	b := make([]byte, n)
	rand.New(rand.NewSource(int64(n))).Read(b)
	return b
}

// expected is the tag by the standard library.
func expected(key, text []byte) api.Sum {
	h := hmac.New(sha256.New, key)
	h.Write(text)
	return api.Sum(h.Sum(nil))
}

// expanded is the expanded secret by the standard library.
func expanded(t *testing.T, secret, info []byte, n int) []byte {
	out, err := hkdf.Expand(sha256.New, secret, string(info), n)
	if err != nil {
		t.Fatal(err)
	}
	return out
}

func TestKnownTag(t *testing.T) {
	tag := kdf.Tag([]byte("key"), []byte("The quick brown fox jumps over the lazy dog"))
	if got := hex.EncodeToString(tag[:]); got != "f7bc83f430538424b13298e6aa6fb143ef4d59a14946175997479dbc2d1a3cd8" {
		t.Error(got)
	}
}

func TestTagsOfAllLengths(t *testing.T) {
	for n := range 200 {
		key := text(n)
		for _, m := range []int{0, 1, 54, 55, 56, 63, 64, 65, 200, n} {
			if kdf.Tag(key, text(m)) != expected(key, text(m)) {
				t.Fatal("tag", n, m)
			}
		}
	}
	if kdf.Tag(nil) != expected(nil, nil) || kdf.Tag(nil, nil, nil) != expected(nil, nil) || kdf.Tag([]byte{}, []byte{}) != expected(nil, nil) {
		t.Error("tag of nothing")
	}
}

func TestTagOfParts(t *testing.T) {
	key, whole := text(40), text(300)
	for a := 0; a <= 300; a += 7 {
		for b := a; b <= 300; b += 13 {
			if kdf.Tag(key, whole[:a], nil, whole[a:b], whole[b:]) != expected(key, whole) {
				t.Fatal("parts", a, b)
			}
		}
	}
}

func TestEqual(t *testing.T) {
	for _, n := range []int{0, 1, 16, 32, 33} {
		a := text(n)
		if !kdf.Equal(a, bytes.Clone(a)) || kdf.Equal(a, append(bytes.Clone(a), 0)) || kdf.Equal(append(bytes.Clone(a), 0), a) {
			t.Error("length", n)
		}
		for i := range a {
			for bit := range 8 {
				b := bytes.Clone(a)
				b[i] ^= 1 << bit
				if kdf.Equal(a, b) || kdf.Equal(b, a) {
					t.Error("a byte differs", n, i)
				}
			}
		}
	}
	if !kdf.Equal(nil, nil) || !kdf.Equal(nil, []byte{}) || kdf.Equal(nil, []byte{0}) {
		t.Error("nil")
	}
	if kdf.Equal([]byte{1, 2}, []byte{2, 1}) || kdf.Equal([]byte{1, 1}, []byte{2, 2}) {
		t.Error("differences must not make up for each other")
	}
}

func TestExtract(t *testing.T) {
	for _, n := range []int{0, 1, 32, 64, 65, 100} {
		for _, m := range []int{0, 1, 32, 100} {
			if kdf.Extract(text(n), text(m)) != expected(text(n), text(m)) {
				t.Error("extract", n, m)
			}
		}
	}
}

func TestExpand(t *testing.T) {
	secret, info := text(32), text(50)
	most := expanded(t, secret, info, 8160)
	for n := 0; n <= 8160; n++ {
		if n > 300 && n < 7800 && n%37 != 0 {
			continue
		}
		got, err := kdf.Expand(secret, info, n)
		if err != nil || len(got) != n || !bytes.Equal(got, most[:n]) {
			t.Fatal("expand", n, err)
		}
	}
	for _, n := range []int{0, 1, 64, 65, 200} {
		got, err := kdf.Expand(text(n), nil, 100)
		if err != nil || !bytes.Equal(got, expanded(t, text(n), nil, 100)) {
			t.Error("secret of", n)
		}
	}
}

func TestExpandOutOfRange(t *testing.T) {
	for _, n := range []int{-1, 8161, math.MinInt, math.MaxInt, 1 << 32} {
		if got, err := kdf.Expand(text(32), nil, n); !errors.Is(err, api.ErrRange) || got != nil {
			t.Error("expand", n, err)
		}
		if got, err := kdf.Label(api.Sum{}, "x", nil, n); !errors.Is(err, api.ErrRange) || got != nil {
			t.Error("label", n, err)
		}
	}
}

// info is what a labelled secret is expanded with.
func info(label string, context []byte, n int) []byte {
	b := binary.BigEndian.AppendUint16(nil, uint16(n))
	b = append(b, byte(len(label)))
	b = append(b, label...)
	b = binary.BigEndian.AppendUint32(b, uint32(len(context)))
	return append(b, context...)
}

func TestLabel(t *testing.T) {
	secret := api.Sum(text(32))
	for _, label := range []string{"", "a", "node", strings.Repeat("x", 254), strings.Repeat("é", 127) + "y"} {
		for _, many := range []int{0, 1, 100, 300, 1<<16 - 1, 1 << 16} {
			for _, n := range []int{0, 1, 32, 44, 300, 8160} {
				got, err := kdf.Label(secret, label, text(many), n)
				if err != nil || !bytes.Equal(got, expanded(t, secret[:], info(label, text(many), n), n)) {
					t.Fatal("label", len(label), many, n, err)
				}
			}
		}
	}
}

func TestLabelOutOfRange(t *testing.T) {
	for _, x := range []struct {
		label string
		many  int
	}{{strings.Repeat("x", 256), 0}, {"x", 1<<16 + 1}, {strings.Repeat("x", 300), 1 << 17}} {
		if got, err := kdf.Label(api.Sum{1}, x.label, make([]byte, x.many), 32); !errors.Is(err, api.ErrRange) || got != nil {
			t.Error(len(x.label), x.many, err)
		}
	}
}

func TestDerive(t *testing.T) {
	secret := api.Sum(text(32))
	for n := range 256 {
		label := strings.Repeat("k", n)
		got := kdf.Derive(secret, label)
		if !bytes.Equal(got[:], expanded(t, secret[:], info(label, nil, 32), 32)) {
			t.Fatal("label of", n)
		}
	}
	if kdf.Derive(secret, strings.Repeat("k", 256)) != (api.Sum{}) {
		t.Error("a label that is too long")
	}
}

func TestArgumentsStay(t *testing.T) {
	for _, n := range []int{0, 20, 63, 64, 65, 80} {
		a, b := text(n+200), text(n+201)
		keptA, keptB := bytes.Clone(a), bytes.Clone(b)
		tag := kdf.Tag(a[:n], b[:n])
		kdf.Equal(a[:n], b[:n])
		kdf.Extract(a[:n], b[:n])
		x, _ := kdf.Expand(a[:n], b[:n], 100)
		y, _ := kdf.Label(api.Sum{1}, "x", b[:n], 100)
		if !bytes.Equal(a, keptA) || !bytes.Equal(b, keptB) {
			t.Fatal("an argument was changed", n)
		}
		keptX, keptY := bytes.Clone(x), bytes.Clone(y)
		clear(a)
		clear(b)
		if !bytes.Equal(x, keptX) || !bytes.Equal(y, keptY) || tag != expected(keptA[:n], keptB[:n]) {
			t.Fatal("a result shares with an argument", n)
		}
	}
	one, _ := kdf.Expand(text(32), nil, 64)
	kept := bytes.Clone(one)
	two, _ := kdf.Expand(text(32), nil, 64)
	clear(two)
	if !bytes.Equal(one, kept) {
		t.Error("two results share")
	}
}
