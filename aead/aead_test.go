package aead_test

import (
	"bytes"
	"encoding/binary"
	"encoding/hex"
	"errors"
	"math"
	"math/big"
	"math/rand"
	"testing"

	"burrow/aead"
	"burrow/api"
	"burrow/chacha"
)

func text(n int) []byte {
	b := make([]byte, n)
	rand.New(rand.NewSource(int64(n))).Read(b)
	return b
}

func unhex(s string) []byte {
	b, err := hex.DecodeString(s)
	if err != nil {
		panic(err)
	}
	return b
}

// little is the number of bytes, the lowest first.
func little(b []byte) *big.Int {
	b = bytes.Clone(b)
	for i := range len(b) / 2 {
		b[i], b[len(b)-1-i] = b[len(b)-1-i], b[i]
	}
	return new(big.Int).SetBytes(b)
}

// expected is a mark, made with big numbers.
func expected(key api.Key, text []byte) [16]byte {
	for _, i := range []int{3, 7, 11, 15} {
		key[i] &= 15
	}
	for _, i := range []int{4, 8, 12} {
		key[i] &= 252
	}
	r, s := little(key[:16]), little(key[16:])
	p := new(big.Int).Lsh(big.NewInt(1), 130)
	p.Sub(p, big.NewInt(5))
	sum := new(big.Int)
	for len(text) > 0 {
		n := min(16, len(text))
		sum.Add(sum, little(append(bytes.Clone(text[:n]), 1)))
		sum.Mul(sum, r).Mod(sum, p)
		text = text[n:]
	}
	sum.Add(sum, s)
	b := sum.FillBytes(make([]byte, 32))
	var out [16]byte
	for i := range out {
		out[i] = b[31-i]
	}
	return out
}

func TestKnownMark(t *testing.T) {
	key := api.Key(unhex("85d6be7857556d337f4452fe42d506a80103808afb0db2fd4abff6af4149f51b"))
	if got := aead.Mark(key, []byte("Cryptographic Forum Research Group")); hex.EncodeToString(got[:]) != "a8061dc1305136c6c22b8baf0c0127a9" {
		t.Errorf("%x", got)
	}
}

// keys are random ones, and ones whose products are near the modulus.
func keys() []api.Key {
	out := []api.Key{{}, {1}, {2}, {4}, {5}, {0: 1, 9: 4}, {0: 2, 16: 255}}
	full := api.Key(bytes.Repeat([]byte{255}, 32))
	out = append(out, full)
	two := api.Key(append(append([]byte{2}, make([]byte, 15)...), bytes.Repeat([]byte{255}, 16)...))
	out = append(out, two)
	for i := range 30 {
		out = append(out, api.Key(text(32 + i)[:32]))
	}
	return out
}

// texts are random ones, and ones of many bits.
func texts() [][]byte {
	var out [][]byte
	for n := range 70 {
		out = append(out, text(n), bytes.Repeat([]byte{255}, n), make([]byte, n))
	}
	for d := range 16 {
		b := bytes.Repeat([]byte{255}, 48)
		b[0], b[16], b[32] = byte(240+d), byte(d), byte(240+d)
		out = append(out, b[:16], b[:32], b, append(bytes.Clone(b[:16]), 2))
	}
	edge := append(bytes.Repeat([]byte{255}, 16), append([]byte{251}, bytes.Repeat([]byte{254}, 15)...)...)
	return append(out, append(edge, bytes.Repeat([]byte{1}, 16)...), text(1000), text(4096))
}

func TestMarks(t *testing.T) {
	for i, key := range keys() {
		for k, b := range texts() {
			if aead.Mark(key, b) != expected(key, b) {
				t.Fatal("mark", i, k)
			}
		}
	}
	if aead.Mark(api.Key{16: 7}) != [16]byte{7} || aead.Mark(api.Key{16: 7}, nil, nil) != [16]byte{7} {
		t.Error("mark of nothing")
	}
}

func TestMarkOfParts(t *testing.T) {
	whole, key := text(100), keys()[12]
	want := expected(key, whole)
	for a := range 101 {
		for b := a; b <= 100; b++ {
			if aead.Mark(key, whole[:a], nil, whole[a:b], whole[b:]) != want {
				t.Fatal("parts", a, b)
			}
		}
	}
}

func TestKnownSealed(t *testing.T) {
	plain := []byte("Ladies and Gentlemen of the class of '99: If I could offer you only one tip for the future, sunscreen would be it.")
	key := api.Key(unhex("808182838485868788898a8b8c8d8e8f909192939495969798999a9b9c9d9e9f"))
	nonce, context := unhex("070000004041424344454647"), unhex("50515253c0c1c2c3c4c5c6c7")
	got, err := aead.Seal(key, nonce, context, plain)
	want := "d31a8d34648e60db7b86afbc53ef7ec2a4aded51296e08fea9e2b5a736ee62d63dbea45e8ca9671282fafb69da92728b1a71de0a9e060b2905d6a5b67ecd3b3692ddbd7f2d778b8c9803aee328091b58fab324e4fad675945585808b4831d7bc3ff4def08e4b7a9de576d26586cec64b61161ae10b594f09e26a7e902ecbd0600691"
	if err != nil || hex.EncodeToString(got) != want {
		t.Errorf("%x %v", got, err)
	}
}

// sealed is a sealed text, put together by its definition.
func sealed(key api.Key, nonce, context, text []byte) []byte {
	mixed, _ := chacha.Mix(key, nonce, 1, text)
	piece, _ := chacha.Piece(key, nonce, 0)
	var b []byte
	for _, part := range [][]byte{context, mixed} {
		b = append(b, part...)
		for len(b)%16 != 0 {
			b = append(b, 0)
		}
	}
	b = binary.LittleEndian.AppendUint64(b, uint64(len(context)))
	b = binary.LittleEndian.AppendUint64(b, uint64(len(text)))
	mark := expected(api.Key(piece[:32]), b)
	return append(mixed, mark[:]...)
}

func TestSealAndOpen(t *testing.T) {
	for _, n := range []int{0, 1, 15, 16, 17, 31, 32, 33, 63, 64, 65, 128, 1000} {
		for _, m := range []int{0, 1, 15, 16, 17, 40, 300} {
			key, nonce := api.Key(text(n + m + 40)[:32]), text(n + m + 50)[:12]
			got, err := aead.Seal(key, nonce, text(m), text(n))
			if err != nil || !bytes.Equal(got, sealed(key, nonce, text(m), text(n))) {
				t.Fatal("seal", n, m, err)
			}
			back, err := aead.Open(key, nonce, text(m), got)
			if err != nil || !bytes.Equal(back, text(n)) {
				t.Fatal("open", n, m, err)
			}
		}
	}
}

func TestChangedBytes(t *testing.T) {
	key, nonce, context := api.Key(text(32)), text(12), text(20)
	good, _ := aead.Seal(key, nonce, context, text(40))
	refused := func(key api.Key, nonce, context, b []byte, what string, i int) {
		t.Helper()
		if got, err := aead.Open(key, nonce, context, b); !errors.Is(err, api.ErrAuth) || got != nil {
			t.Error(what, i, err)
		}
	}
	for i := range good {
		for bit := range 8 {
			b := bytes.Clone(good)
			b[i] ^= 1 << bit
			refused(key, nonce, context, b, "sealed", i)
		}
	}
	for i := range context {
		b := bytes.Clone(context)
		b[i]++
		refused(key, nonce, b, good, "context", i)
	}
	for i := range nonce {
		b := bytes.Clone(nonce)
		b[i]++
		refused(key, b, context, good, "nonce", i)
	}
	for i := range key {
		other := key
		other[i]++
		refused(other, nonce, context, good, "key", i)
	}
	for i := range good {
		refused(key, nonce, context, good[:i], "cut", i)
	}
	refused(key, nonce, append(bytes.Clone(context), 0), good, "longer context", 0)
	refused(key, nonce, context[:19], good, "shorter context", 0)
	refused(key, nonce, context, append(bytes.Clone(good), 0), "longer", 0)
}

func TestLengths(t *testing.T) {
	key := api.Key{1}
	most := 1 << 20
	big := make([]byte, most+17)
	for _, n := range []int{0, 11, 13, 24} {
		if got, err := aead.Seal(key, make([]byte, n), nil, nil); !errors.Is(err, api.ErrLen) || got != nil {
			t.Error("seal with a nonce of", n, err)
		}
		if got, err := aead.Open(key, make([]byte, n), nil, nil); !errors.Is(err, api.ErrLen) || got != nil {
			t.Error("open with a nonce of", n, err)
		}
	}
	nonce := make([]byte, 12)
	full, err := aead.Seal(key, nonce, big[:most], big[:most])
	if err != nil || len(full) != most+16 {
		t.Fatal("the longest", err)
	}
	if back, err := aead.Open(key, nonce, big[:most], full); err != nil || !bytes.Equal(back, big[:most]) {
		t.Error("the longest, opened", err)
	}
	if got, err := aead.Seal(key, nonce, big[:most+1], nil); !errors.Is(err, api.ErrLen) || got != nil {
		t.Error("long context", err)
	}
	if got, err := aead.Seal(key, nonce, nil, big[:most+1]); !errors.Is(err, api.ErrLen) || got != nil {
		t.Error("long text", err)
	}
	long := sealed(key, nonce, big[:most+16], text(5))
	if back, err := aead.Open(key, nonce, big[:most+16], long); err != nil || !bytes.Equal(back, text(5)) {
		t.Error("longest context to open", err)
	}
	if got, err := aead.Open(key, nonce, big, long); !errors.Is(err, api.ErrLen) || got != nil {
		t.Error("long context to open", err)
	}
	if got, err := aead.Open(key, nonce, nil, big); !errors.Is(err, api.ErrLen) || got != nil {
		t.Error("long sealed text", err)
	}
	if _, err := aead.Open(key, nonce, big, nil); !errors.Is(err, api.ErrLen) {
		t.Error("long context, short sealed text", err)
	}
}

func TestNonce(t *testing.T) {
	for _, n := range []int{0, 1, 255, 256, 1<<32 - 1, 1 << 32, math.MaxInt, -1, math.MinInt, 0x0102030405060708} {
		want := binary.LittleEndian.AppendUint64(make([]byte, 4), uint64(n))
		if got := aead.Nonce(n); !bytes.Equal(got, want) {
			t.Error(n, got)
		}
	}
}

func TestArgumentsStay(t *testing.T) {
	nonce, context, b := text(40), text(80), text(200)
	kept := [][]byte{bytes.Clone(nonce), bytes.Clone(context), bytes.Clone(b)}
	got, _ := aead.Seal(api.Key{1}, nonce[:12], context[:20], b[:100])
	good := append(bytes.Clone(got), text(100)...)
	keptGood := bytes.Clone(good)
	back, err := aead.Open(api.Key{1}, nonce[:12], context[:20], good[:116])
	aead.Mark(api.Key{1}, b[:99])
	if err != nil || !bytes.Equal(nonce, kept[0]) || !bytes.Equal(context, kept[1]) || !bytes.Equal(b, kept[2]) || !bytes.Equal(good, keptGood) {
		t.Error("an argument was changed", err)
	}
	clear(b)
	clear(good)
	if !bytes.Equal(got, keptGood[:116]) || !bytes.Equal(back, kept[2][:100]) {
		t.Error("a result shares with an argument")
	}
	one := aead.Nonce(5)
	clear(one)
	if aead.Nonce(5)[4] != 5 {
		t.Error("nonces share")
	}
}
