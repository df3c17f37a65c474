package chacha_test

import (
	"bytes"
	"encoding/binary"
	"encoding/hex"
	"errors"
	"math"
	"math/rand"
	"strings"
	"testing"

	"burrow/api"
	"burrow/chacha"
)

const last = 1<<32 - 1

func text(n int) []byte {
	b := make([]byte, n)
	rand.New(rand.NewSource(int64(n))).Read(b)
	return b
}

func unhex(s string) []byte {
	b, err := hex.DecodeString(strings.ReplaceAll(s, " ", ""))
	if err != nil {
		panic(err)
	}
	return b
}

func count() api.Key {
	var key api.Key
	for i := range key {
		key[i] = byte(i)
	}
	return key
}

// expected is a piece, made on one's own.
func expected(key api.Key, nonce []byte, number int) []byte {
	in := append([]byte("expand 32-byte k"), key[:]...)
	in = binary.LittleEndian.AppendUint32(in, uint32(number))
	in = append(in, nonce...)
	var first, w [16]uint32
	for i := range first {
		first[i] = binary.LittleEndian.Uint32(in[4*i:])
	}
	w = first
	turn := func(a, b, c *uint32, k int) {
		*a += *b
		*c ^= *a
		*c = *c<<k | *c>>(32-k)
	}
	quarter := func(a, b, c, d int) {
		turn(&w[a], &w[b], &w[d], 16)
		turn(&w[c], &w[d], &w[b], 12)
		turn(&w[a], &w[b], &w[d], 8)
		turn(&w[c], &w[d], &w[b], 7)
	}
	for range 10 {
		for i := range 4 {
			quarter(i, 4+i, 8+i, 12+i)
		}
		for i := range 4 {
			quarter(i, 4+(i+1)%4, 8+(i+2)%4, 12+(i+3)%4)
		}
	}
	var out []byte
	for i := range w {
		out = binary.LittleEndian.AppendUint32(out, w[i]+first[i])
	}
	return out
}

func TestQuarter(t *testing.T) {
	a, b, c, d := chacha.Quarter(0x11111111, 0x01020304, 0x9b8d6f43, 0x01234567)
	if a != 0xea2a92f4 || b != 0xcb1cf8ce || c != 0x4581472e || d != 0x5881c4bb {
		t.Errorf("%x %x %x %x", a, b, c, d)
	}
	a, b, c, d = chacha.Quarter(0x516461b1, 0x2a5f714c, 0x53372767, 0x3d631689)
	if a != 0xbdb886dc || b != 0xcfacafd2 || c != 0xe46bea80 || d != 0xccc07c79 {
		t.Errorf("%x %x %x %x", a, b, c, d)
	}
	if a, b, c, d = chacha.Quarter(0, 0, 0, 0); a|b|c|d != 0 {
		t.Error("zeros")
	}
}

func TestKnownPiece(t *testing.T) {
	got, err := chacha.Piece(count(), unhex("000000090000004a00000000"), 1)
	want := unhex("10f1e7e4d13b5915500fdd1fa32071c4c7d1f4c733c068030422aa9ac3d46c4ed2826446079faa0914c2d705d98b02a2b5129cd1de164eb9cbd083e8a2503c4e")
	if err != nil || !bytes.Equal(got[:], want) {
		t.Errorf("%x %v", got, err)
	}
}

func TestKnownText(t *testing.T) {
	plain := []byte("Ladies and Gentlemen of the class of '99: If I could offer you only one tip for the future, sunscreen would be it.")
	want := unhex("6e2e359a2568f98041ba0728dd0d6981e97e7aec1d4360c20a27afccfd9fae0bf91b65c5524733ab8f593dabcd62b3571639d624e65152ab8f530c359f0861d807ca0dbf500d6a6156a38e088a22b65e52bc514d16ccf806818ce91ab77937365af90bbf74a35be6b40b8eedf2785e42874d")
	got, err := chacha.Mix(count(), unhex("000000000000004a00000000"), 1, plain)
	if err != nil || !bytes.Equal(got, want) {
		t.Errorf("%x %v", got, err)
	}
}

func TestPieces(t *testing.T) {
	numbers := []int{0, 1, 2, 255, 256, 1 << 16, 1<<31 - 1, 1 << 31, last - 3, last - 2, last - 1, last}
	for i, number := range numbers {
		key, nonce := api.Key(text(32 + i)[:32]), text(100 + i)[:12]
		got, err := chacha.Piece(key, nonce, number)
		if err != nil || !bytes.Equal(got[:], expected(key, nonce, number)) {
			t.Error("piece", number, err)
		}
		n := number
		for at, piece := range chacha.Pieces(key, nonce, number) {
			if at != n || !bytes.Equal(piece[:], expected(key, nonce, n)) {
				t.Fatal("pieces", number, at, n)
			}
			if n++; n == number+5 {
				break
			}
		}
		if n != min(number+5, last+1) {
			t.Error("pieces ended at", n)
		}
	}
}

func TestPiecesTwice(t *testing.T) {
	nonce := text(12)
	pieces := chacha.Pieces(api.Key{1}, nonce, last-2)
	kept := bytes.Clone(nonce)
	clear(nonce)
	for range 2 {
		n := last - 2
		for at, piece := range pieces {
			if at != n || !bytes.Equal(piece[:], expected(api.Key{1}, kept, n)) {
				t.Fatal("piece", at, n)
			}
			n++
		}
		if n != last+1 {
			t.Error("ended at", n)
		}
	}
}

// wrong are arguments that are refused, and how.
func wrong() []struct {
	nonce  []byte
	number int
	err    error
} {
	return []struct {
		nonce  []byte
		number int
		err    error
	}{
		{nil, 0, api.ErrLen}, {text(11), 0, api.ErrLen}, {text(13), 0, api.ErrLen}, {text(24), 1, api.ErrLen},
		{nil, -1, api.ErrLen}, {text(11), last + 1, api.ErrLen},
		{text(12), -1, api.ErrUsedUp}, {text(12), last + 1, api.ErrUsedUp},
		{text(12), math.MinInt, api.ErrUsedUp}, {text(12), math.MaxInt, api.ErrUsedUp},
	}
}

func TestWrongArguments(t *testing.T) {
	for i, x := range wrong() {
		if piece, err := chacha.Piece(api.Key{1}, x.nonce, x.number); !errors.Is(err, x.err) || piece != [64]byte{} {
			t.Error("piece", i, err)
		}
		for range chacha.Pieces(api.Key{1}, x.nonce, x.number) {
			t.Fatal("pieces", i)
		}
		for _, n := range []int{0, 1, 100} {
			if got, err := chacha.Mix(api.Key{1}, x.nonce, x.number, text(n)); !errors.Is(err, x.err) || got != nil {
				t.Error("mix", i, n, err)
			}
		}
	}
}

func TestMix(t *testing.T) {
	key, nonce := api.Key(text(32)), text(12)
	var stream []byte
	for n := range 8 {
		stream = append(stream, expected(key, nonce, 7+n)...)
	}
	plain := text(512)
	for n := range 513 {
		got, err := chacha.Mix(key, nonce, 7, plain[:n])
		if err != nil || len(got) != n {
			t.Fatal("mix", n, err)
		}
		for i := range got {
			if got[i] != plain[i]^stream[i] {
				t.Fatal("mix", n, i)
			}
		}
		back, err := chacha.Mix(key, nonce, 7, got)
		if err != nil || !bytes.Equal(back, plain[:n]) {
			t.Fatal("mixed twice", n)
		}
	}
}

func TestMixAtTheEnd(t *testing.T) {
	key, nonce := api.Key(text(32)), text(12)
	for left := 1; left <= 4; left++ {
		number := last + 1 - left
		for _, n := range []int{0, 1, 64*left - 1, 64 * left} {
			if got, err := chacha.Mix(key, nonce, number, text(n)); err != nil || len(got) != n {
				t.Error("mix", left, n, err)
			}
		}
		for _, n := range []int{64*left + 1, 64*left + 64, 64*left + 65} {
			if got, err := chacha.Mix(key, nonce, number, text(n)); !errors.Is(err, api.ErrUsedUp) || got != nil {
				t.Error("mix", left, n, err)
			}
		}
	}
}

func TestArgumentsStay(t *testing.T) {
	whole, nonce := text(300), text(40)
	keptText, keptNonce := bytes.Clone(whole), bytes.Clone(nonce)
	got, _ := chacha.Mix(api.Key{1}, nonce[:12], 0, whole[:100])
	chacha.Piece(api.Key{1}, nonce[:12], 0)
	for range chacha.Pieces(api.Key{1}, nonce[:12], last) {
	}
	if !bytes.Equal(whole, keptText) || !bytes.Equal(nonce, keptNonce) {
		t.Error("an argument was changed")
	}
	kept := bytes.Clone(got)
	clear(whole)
	if !bytes.Equal(got, kept) {
		t.Error("a result shares with an argument")
	}
}
