package sign_test

import (
	"bytes"
	"crypto/ed25519"
	"encoding/hex"
	"math/big"
	"math/rand"
	"slices"
	"testing"

	"burrow/api"
	"burrow/point"
	"burrow/sha"
	"burrow/sign"
)

func text(n int) []byte {
	b := make([]byte, n)
	rand.New(rand.NewSource(int64(n))).Read(b)
	return b
}

func seeds(many int) []api.Key {
	r := rand.New(rand.NewSource(1))
	out := make([]api.Key, many)
	for i := range out {
		r.Read(out[i][:])
	}
	return append(out, api.Key{}, api.Key(bytes.Repeat([]byte{255}, 32)))
}

func TestKnownKey(t *testing.T) {
	seed, _ := hex.DecodeString("9d61b19deffd5a60ba844af492ec2cc44449c5697b326919703bac031cae7f60")
	got := sign.Public(api.Key(seed))
	if hex.EncodeToString(got[:]) != "d75a980182b10ab7d54bfed3c964073a0ee172f3daa62325af021a68f707511a" {
		t.Errorf("%x", got)
	}
	sig := sign.Sign(api.Key(seed))
	if hex.EncodeToString(sig[:]) != "e5564300c360ac729086e2cc806e828a84877f1eb8e5d974d873e065224901555fb8821590a33bacc61e39701cf9b46bd25bf5f0595bbe24655141438e7a100b" {
		t.Errorf("%x", sig)
	}
}

func TestSignaturesAreTheStandardOnes(t *testing.T) {
	for i, seed := range seeds(25) {
		key := ed25519.NewKeyFromSeed(seed[:])
		public := sign.Public(seed)
		if !bytes.Equal(public[:], key.Public().(ed25519.PublicKey)) {
			t.Fatal("public", i)
		}
		for _, n := range []int{0, 1, 31, 32, 63, 64, 65, 100, 127, 128, 200 + i} {
			sig := sign.Sign(seed, text(n))
			if !bytes.Equal(sig[:], ed25519.Sign(key, text(n))) {
				t.Fatal("sign", i, n)
			}
			if n%2 == 0 && !sign.Verify(public, sig, text(n)) {
				t.Fatal("verify", i, n)
			}
		}
	}
}

func TestParts(t *testing.T) {
	seed, whole := seeds(1)[0], text(150)
	public, want := sign.Public(seed), sign.Sign(seed, whole)
	for a := 0; a <= 150; a += 25 {
		for b := a; b <= 150; b += 25 {
			if sign.Sign(seed, whole[:a], nil, whole[a:b], whole[b:]) != want {
				t.Fatal("sign", a, b)
			}
			if !sign.Verify(public, want, whole[:a], whole[a:b], nil, whole[b:]) {
				t.Fatal("verify", a, b)
			}
		}
	}
	if sign.Sign(seed) != sign.Sign(seed, nil) || !sign.Verify(public, sign.Sign(seed), nil, nil) || !sign.Verify(public, sign.Sign(seed)) {
		t.Error("no parts")
	}
}

func TestWhatIsWrong(t *testing.T) {
	seed, other, b := seeds(2)[0], seeds(2)[1], text(20)
	public, sig := sign.Public(seed), sign.Sign(seed, b)
	for i := range sig {
		for _, bit := range []byte{1, 0x10, 0x80} {
			bad := sig
			bad[i] ^= bit
			if sign.Verify(public, bad, b) {
				t.Error("another signature", i)
			}
		}
	}
	for i := range b {
		bad := bytes.Clone(b)
		bad[i] ^= 1
		if sign.Verify(public, sig, bad) {
			t.Error("another text", i)
		}
	}
	for i := range public {
		bad := public
		bad[i] ^= 1
		if sign.Verify(bad, sig, b) {
			t.Error("another key", i)
		}
	}
	if sign.Verify(public, sig, b[:19]) || sign.Verify(public, sig, b, []byte{0}) || sign.Verify(public, sig) {
		t.Error("another length")
	}
	if sign.Verify(sign.Public(other), sig, b) || sign.Verify(public, api.Wide{}, b) || sign.Verify(api.Key{}, sig, b) {
		t.Error("another one's key")
	}
}

// add adds a number to the second half of a signature.
func add(sig api.Wide, n *big.Int) api.Wide {
	b := slices.Clone(sig[32:])
	slices.Reverse(b)
	sum := new(big.Int).Add(new(big.Int).SetBytes(b), n)
	b = sum.FillBytes(make([]byte, 32))
	slices.Reverse(b)
	copy(sig[32:], b)
	return sig
}

func TestSecondHalfIsAResidue(t *testing.T) {
	order, _ := new(big.Int).SetString("27742317777372353535851937790883648493", 10)
	order.Add(order, new(big.Int).Lsh(big.NewInt(1), 252))
	seed := seeds(1)[0]
	public, sig := sign.Public(seed), sign.Sign(seed, text(5))
	for k := int64(1); k < 8; k++ {
		if sign.Verify(public, add(sig, new(big.Int).Mul(order, big.NewInt(k))), text(5)) {
			t.Error("not a residue", k)
		}
	}
	if !sign.Verify(public, sig, text(5)) {
		t.Error("the residue")
	}
}

// TestSmallOrder: the definition alone decides, also for keys that nobody should use.
func TestSmallOrder(t *testing.T) {
	neutral := api.Key{1}
	var sig api.Wide
	copy(sig[:], neutral[:])
	if !sign.Verify(neutral, sig, text(9)) {
		t.Error("the neutral point as the key, s of 0")
	}
	odd := neutral
	odd[31] |= 0x80
	if sign.Verify(odd, sig, text(9)) {
		t.Error("no bytes of a point")
	}
	high := neutral
	high[0] = 0xee // 1, plus the prime
	for i := 1; i < 31; i++ {
		high[i] = 0xff
	}
	high[31] = 0x7f
	if sign.Verify(high, sig, text(9)) {
		t.Error("a y that isn't below the prime")
	}
	var again api.Wide
	copy(again[:], high[:])
	if sign.Verify(neutral, again, text(9)) {
		t.Error("R with other bytes than the point's")
	}
}

// TestFormula: the equation holds with the sign that the definition gives, for a key of small order too.
func TestFormula(t *testing.T) {
	two := api.Key{0: 0xec, 31: 0x7f} // 0, -1
	for i := 1; i < 31; i++ {
		two[i] = 0xff
	}
	p, ok := point.From(two)
	if !ok {
		t.Fatal("no point")
	}
	for n := range 8 {
		s := api.Key{byte(n)}
		for _, r := range []api.Key{point.Base().Times(s).Bytes(), point.Base().Times(s).Add(p).Bytes()} {
			var sig api.Wide
			copy(sig[:], r[:])
			copy(sig[32:], s[:])
			long := sha.Long(r[:], two[:], text(3))
			k, _ := point.Reduce(long[:])
			want := point.Base().Times(s).Add(p.Times(k).Neg()).Bytes() == r
			if sign.Verify(two, sig, text(3)) != want {
				t.Error(n, want)
			}
		}
	}
}

func TestArgumentsStay(t *testing.T) {
	whole := text(100)
	kept := bytes.Clone(whole)
	parts := make([][]byte, 1, 3)
	parts[0] = whole[:40]
	sig := sign.Sign(api.Key{1}, parts...)
	if !sign.Verify(sign.Public(api.Key{1}), sig, parts...) {
		t.Error("verify")
	}
	if !bytes.Equal(whole, kept) || len(parts) != 1 || parts[:2][1] != nil || &parts[0][0] != &whole[0] {
		t.Error("an argument was changed")
	}
}
