package box_test

import (
	"bytes"
	"crypto/ecdh"
	"crypto/hkdf"
	"crypto/sha256"
	"errors"
	"math/rand"
	"testing"

	"burrow/aead"
	"burrow/api"
	"burrow/box"
	"burrow/ladder"
)

func text(n int) []byte {
	b := make([]byte, n)
	rand.New(rand.NewSource(int64(n))).Read(b)
	return b
}

func key(n int) api.Key { return api.Key(text(1000 + n)[:32]) }

// boxed is a boxed text, by the definition and the standard library.
func boxed(t *testing.T, public, draw api.Key, info, text []byte) []byte {
	t.Helper()
	secret, err := ecdh.X25519().NewPrivateKey(draw[:])
	if err != nil {
		t.Fatal(err)
	}
	theirs, err := ecdh.X25519().NewPublicKey(public[:])
	if err != nil {
		t.Fatal(err)
	}
	shared, err := secret.ECDH(theirs)
	if err != nil {
		t.Fatal(err)
	}
	middle, err := hkdf.Extract(sha256.New, shared, nil)
	if err != nil {
		t.Fatal(err)
	}
	own := secret.PublicKey().Bytes()
	sum := sha256.Sum256(info)
	label := []byte{0, 32, 3, 'b', 'o', 'x', 0, 0, 0, 96}
	label = append(label, own...)
	label = append(label, public[:]...)
	label = append(label, sum[:]...)
	k, err := hkdf.Expand(sha256.New, middle, string(label), 32)
	if err != nil {
		t.Fatal(err)
	}
	sealed, err := aead.Seal(api.Key(k), make([]byte, 12), info, text)
	if err != nil {
		t.Fatal(err)
	}
	return append(own, sealed...)
}

func TestSealAndOpen(t *testing.T) {
	for i, n := range []int{0, 1, 15, 16, 32, 64, 100, 1000} {
		for _, m := range []int{0, 1, 100, 300} {
			own := ladder.New(key(i))
			got, err := box.Seal(own.Public, key(i+50), text(m), text(n))
			if err != nil || !bytes.Equal(got, boxed(t, own.Public, key(i+50), text(m), text(n))) || len(got) != n+48 {
				t.Fatal("seal", n, m, err)
			}
			back, err := box.Open(own, text(m), got)
			if err != nil || !bytes.Equal(back, text(n)) {
				t.Fatal("open", n, m, err)
			}
		}
	}
}

// TestKeysAsTheyAre: the bytes of a public key count, also where two of them are the same number.
func TestKeysAsTheyAre(t *testing.T) {
	own := ladder.New(key(1))
	own.Public[31] |= 0x80
	got, err := box.Seal(own.Public, key(2), text(3), text(4))
	if err != nil || !bytes.Equal(got, boxed(t, own.Public, key(2), text(3), text(4))) {
		t.Error("seal", err)
	}
	if back, err := box.Open(own, text(3), got); err != nil || !bytes.Equal(back, text(4)) {
		t.Error("open", err)
	}
	if back, err := box.Open(ladder.New(key(1)), text(3), got); !errors.Is(err, api.ErrAuth) || back != nil {
		t.Error("the same number", err)
	}
}

func TestWhatIsWrong(t *testing.T) {
	own := ladder.New(key(1))
	good, err := box.Seal(own.Public, key(2), text(30), text(20))
	if err != nil {
		t.Fatal(err)
	}
	refuse := func(own api.Pair, info, b []byte, what string, i int) {
		t.Helper()
		if got, err := box.Open(own, info, b); !errors.Is(err, api.ErrAuth) || got != nil {
			t.Error(what, i, err)
		}
	}
	for i := range good {
		for _, bit := range []byte{1, 0x80} {
			bad := bytes.Clone(good)
			bad[i] ^= bit
			refuse(own, text(30), bad, "boxed", i)
		}
	}
	for i := range 30 {
		bad := text(30)
		bad[i]++
		refuse(own, bad, good, "info", i)
	}
	refuse(own, text(30)[:29], good, "shorter info", 0)
	refuse(own, nil, good, "no info", 0)
	refuse(own, text(30), good[:len(good)-1], "shorter", 0)
	refuse(own, text(30), append(bytes.Clone(good), 0), "longer", 0)
	refuse(own, text(30), good[:48], "shortest", 0)
	refuse(ladder.New(key(3)), text(30), good, "another one's", 0)
	refuse(api.Pair{Secret: own.Secret, Public: key(5)}, text(30), good, "another public key", 0)
}

func TestLengths(t *testing.T) {
	most := 1 << 16
	big := text(most + 49)
	own := ladder.New(key(1))
	full, err := box.Seal(own.Public, key(2), big[:most], big[:most])
	if err != nil || len(full) != most+48 {
		t.Fatal("the longest", err)
	}
	if back, err := box.Open(own, big[:most], full); err != nil || !bytes.Equal(back, big[:most]) {
		t.Error("the longest, opened", err)
	}
	for _, public := range []api.Key{own.Public, {}} {
		if got, err := box.Seal(public, key(2), big[:most+1], nil); !errors.Is(err, api.ErrLen) || got != nil {
			t.Error("long info", err)
		}
		if got, err := box.Seal(public, key(2), nil, big[:most+1]); !errors.Is(err, api.ErrLen) || got != nil {
			t.Error("long text", err)
		}
	}
	if got, err := box.Open(own, big[:most+1], full); !errors.Is(err, api.ErrLen) || got != nil {
		t.Error("open with a long info", err)
	}
	for _, n := range []int{0, 1, 31, 32, 47, most + 49} {
		if got, err := box.Open(own, nil, big[:n]); !errors.Is(err, api.ErrLen) || got != nil {
			t.Error("open", n, err)
		}
		if got, err := box.Open(own, nil, make([]byte, n)); !errors.Is(err, api.ErrLen) || got != nil {
			t.Error("open zeros", n, err)
		}
	}
}

func TestZeroResults(t *testing.T) {
	own := ladder.New(key(1))
	for _, low := range []api.Key{{}, {1}, {31: 0x80}} {
		if got, err := box.Seal(low, key(2), text(3), text(4)); !errors.Is(err, api.ErrRange) || got != nil {
			t.Error("seal", err)
		}
		if got, err := box.Open(own, nil, append(low[:], text(16)...)); !errors.Is(err, api.ErrRange) || got != nil {
			t.Error("open", err)
		}
	}
}

func TestArgumentsStay(t *testing.T) {
	own := ladder.New(key(1))
	info, b := text(100), text(101)
	keptInfo, kept := bytes.Clone(info), bytes.Clone(b)
	good, err := box.Seal(own.Public, key(2), info[:40], b[:50])
	whole := append(bytes.Clone(good), text(40)...)
	keptWhole := bytes.Clone(whole)
	got, err2 := box.Open(own, info[:40], whole[:len(good)])
	if err != nil || err2 != nil || !bytes.Equal(info, keptInfo) || !bytes.Equal(b, kept) || !bytes.Equal(whole, keptWhole) {
		t.Error("an argument was changed", err, err2)
	}
	clear(b)
	clear(whole)
	if !bytes.Equal(good, keptWhole[:len(good)]) || !bytes.Equal(got, kept[:50]) {
		t.Error("a result shares with an argument")
	}
}
