package ladder_test

import (
	"crypto/ecdh"
	"encoding/hex"
	"errors"
	"math/big"
	"math/rand"
	"slices"
	"testing"

	"burrow/api"
	"burrow/ladder"
)

func keyOf(s string) api.Key {
	b, err := hex.DecodeString(s)
	if err != nil {
		panic(err)
	}
	return api.Key(b)
}

func keys(seed int64, many int) []api.Key {
	r := rand.New(rand.NewSource(seed))
	out := make([]api.Key, many)
	for i := range out {
		r.Read(out[i][:])
	}
	return out
}

// public is a secret key's public one by the standard library.
func public(t *testing.T, secret api.Key) api.Key {
	k, err := ecdh.X25519().NewPrivateKey(secret[:])
	if err != nil {
		t.Fatal(err)
	}
	return api.Key(k.PublicKey().Bytes())
}

// agree is what comes of two keys by the standard library; false: zeros.
func agree(t *testing.T, secret, public api.Key) (api.Key, bool) {
	k, err := ecdh.X25519().NewPrivateKey(secret[:])
	if err != nil {
		t.Fatal(err)
	}
	p, err := ecdh.X25519().NewPublicKey(public[:])
	if err != nil {
		t.Fatal(err)
	}
	b, err := k.ECDH(p)
	if err != nil {
		return api.Key{}, false
	}
	return api.Key(b), true
}

// edges are numbers next to those where something begins anew.
func edges() []api.Key {
	one := big.NewInt(1)
	var out []api.Key
	for _, shift := range []uint{0, 3, 8, 64, 254, 255} {
		for d := int64(-40); d <= 40; d++ {
			n := new(big.Int).Add(new(big.Int).Lsh(one, shift), big.NewInt(d))
			if n.Sign() < 0 {
				continue
			}
			b := n.FillBytes(make([]byte, 32))
			slices.Reverse(b)
			out = append(out, api.Key(b))
		}
	}
	return out
}

// low are public keys whose result is always 0.
func low() []api.Key {
	list := []string{
		"0000000000000000000000000000000000000000000000000000000000000000",
		"0100000000000000000000000000000000000000000000000000000000000000",
		"e0eb7a7c3b41b8ae1656e3faf19fc46ada098deb9c32b1fd866205165f49b800",
		"5f9c95bca3508c24b1d0b1559c83ef5b04445cc4581c8e86d8224eddd09f1157",
		"ecffffffffffffffffffffffffffffffffffffffffffffffffffffffffffff7f",
		"edffffffffffffffffffffffffffffffffffffffffffffffffffffffffffff7f",
		"eeffffffffffffffffffffffffffffffffffffffffffffffffffffffffffff7f",
	}
	var out []api.Key
	for _, s := range list {
		k := keyOf(s)
		out = append(out, k)
		k[31] |= 0x80 // isn't of the number
		out = append(out, k)
	}
	return out
}

func TestClamp(t *testing.T) {
	for _, k := range append(keys(1, 50), api.Key{}, keyOf("ffffffffffffffffffffffffffffffffffffffffffffffffffffffffffffffff")) {
		want := k
		want[0] &^= 7
		want[31] &^= 128
		want[31] |= 64
		if ladder.Clamp(k) != want || ladder.Clamp(want) != want {
			t.Error(k)
		}
	}
}

func TestKnownResults(t *testing.T) {
	got := ladder.Public(api.Key{1})
	if got[0] != 0x2f || got[1] != 0xe5 || got[31] != 0x74 {
		t.Errorf("public key of 1: %x", got)
	}
	nine := api.Key{9}
	if got, err := ladder.Agree(nine, nine); err != nil || got != keyOf("422c8e7a6227d7bca1350b3e2bb7279f7897b87bb6854b783c60e80311ae3079") {
		t.Errorf("9 and 9: %x %v", got, err)
	}
	secret := keyOf("a546e36bf0527c9d3b16154b82465edd62144c0ac1fc5a18506a2244ba449ac4")
	public := keyOf("e6db6867583030db3594c1a424b15f7c726624ec26b3353b10a903a6d0ab1c4c")
	if got, err := ladder.Agree(secret, public); err != nil || got != keyOf("c3da55379de9c6908e94ea4df28d084f32eccf03491c71f754b4075577a28552") {
		t.Errorf("a known result: %x %v", got, err)
	}
}

func TestPublic(t *testing.T) {
	for i, k := range append(keys(2, 60), edges()[:90]...) {
		want := public(t, k)
		if ladder.Public(k) != want {
			t.Error("public", i)
		}
		if ladder.New(k) != (api.Pair{Secret: k, Public: want}) {
			t.Error("pair", i)
		}
	}
}

func TestAgree(t *testing.T) {
	secrets := keys(3, 300)
	publics := append(keys(4, 100), edges()...)
	for i, p := range publics {
		s := secrets[i%len(secrets)]
		want, ok := agree(t, s, p)
		got, err := ladder.Agree(s, p)
		if ok && (err != nil || got != want) || !ok && (!errors.Is(err, api.ErrRange) || got != api.Key{}) {
			t.Error("agree", i, ok, err)
		}
	}
}

func TestZero(t *testing.T) {
	secrets := append(keys(5, 4), api.Key{}, api.Key{1}, keyOf("ffffffffffffffffffffffffffffffffffffffffffffffffffffffffffffffff"))
	for i, p := range low() {
		for k, s := range secrets {
			if got, err := ladder.Agree(s, p); !errors.Is(err, api.ErrRange) || got != (api.Key{}) {
				t.Error("low order", i, k, err)
			}
		}
	}
}

func TestBothAgree(t *testing.T) {
	all := keys(6, 40)
	for i := 0; i < len(all); i += 2 {
		a, b := ladder.New(all[i]), ladder.New(all[i+1])
		x, err := ladder.Agree(a.Secret, b.Public)
		y, err2 := ladder.Agree(b.Secret, a.Public)
		if err != nil || err2 != nil || x != y || x == (api.Key{}) {
			t.Error("two don't agree", i)
		}
		if z, _ := ladder.Agree(ladder.Clamp(a.Secret), b.Public); z != x {
			t.Error("clamped", i)
		}
	}
}
