package noise_test

import (
	"bytes"
	"errors"
	"math/rand"
	"testing"

	"burrow/api"
	"burrow/cipher"
	"burrow/ladder"
	"burrow/noise"
)

func text(n int) []byte {
	b := make([]byte, n)
	rand.New(rand.NewSource(int64(n))).Read(b)
	return b
}

func key(n int) api.Key { return api.Key(text(1000 + n)[:32]) }

func pair(n int) api.Pair { return ladder.New(key(n)) }

// agreed is what comes of two keys; both of them are good.
func agreed(secret, public api.Key) []byte {
	k, err := ladder.Agree(secret, public)
	if err != nil {
		panic(err)
	}
	return k[:]
}

// model is a whole handshake by its definition, seen from nobody's side.
func model(a, b, x, y api.Pair, prologue, one, two []byte) (first, second []byte, sum api.Sum, send, receive api.Key) {
	s := cipher.Begin("Noise_KK_25519_ChaChaPoly_SHA256")
	s.MixText(prologue)
	s.MixText(a.Public[:])
	s.MixText(b.Public[:])
	s.MixText(x.Public[:])
	s.MixSecret(agreed(x.Secret, b.Public))
	s.MixSecret(agreed(a.Secret, b.Public))
	hidden, _ := s.Hide(one)
	first = append(x.Public[:], hidden...)
	s.MixText(y.Public[:])
	s.MixSecret(agreed(y.Secret, x.Public))
	s.MixSecret(agreed(y.Secret, a.Public))
	hidden, _ = s.Hide(two)
	second = append(y.Public[:], hidden...)
	send, receive = s.Split()
	return first, second, s.Hash(), send, receive
}

// is checks how far a side is.
func is(t *testing.T, h *noise.Hands, turn, done bool) {
	t.Helper()
	if h.Turn() != turn || h.Done() != done {
		t.Fatal("turn", h.Turn(), "done", h.Done())
	}
	send, receive, err := h.Keys()
	if done && err != nil || !done && (!errors.Is(err, api.ErrState) || send != api.Key{} || receive != api.Key{}) {
		t.Fatal("keys", err)
	}
}

// idle checks that a side can't write, or can't read.
func idle(t *testing.T, h *noise.Hands, write, read bool) {
	t.Helper()
	hash := h.Hash()
	for _, n := range []int{0, 5, 1024, 1025} {
		if b, err := h.Write(key(9), text(n)); write && (!errors.Is(err, api.ErrState) || b != nil) {
			t.Fatal("write", n, err)
		}
	}
	for _, n := range []int{0, 47, 48, 100, 1073} {
		if b, err := h.Read(text(n)); read && (!errors.Is(err, api.ErrState) || b != nil) {
			t.Fatal("read", n, err)
		}
	}
	if h.Hash() != hash {
		t.Fatal("an error changed something")
	}
}

func TestHandshake(t *testing.T) {
	for i, n := range []int{0, 1, 15, 16, 100, 1023, 1024} {
		a, b, x, y := pair(i), pair(i+20), pair(i+40), pair(i+60)
		prologue, one, two := text(i), text(n), text(1024-n)
		first, second, sum, send, receive := model(a, b, x, y, prologue, one, two)
		h, g := noise.New(true, a, b.Public, prologue), noise.New(false, b, a.Public, prologue)
		if h.Hash() != g.Hash() {
			t.Fatal("hashes at the beginning")
		}
		is(t, h, true, false)
		is(t, g, false, false)
		idle(t, g, true, false)
		if got, err := h.Write(x.Secret, one); err != nil || !bytes.Equal(got, first) || len(got) != 48+n {
			t.Fatal("first", n, err)
		}
		is(t, h, false, false)
		idle(t, h, true, false)
		if got, err := g.Read(first); err != nil || !bytes.Equal(got, one) {
			t.Fatal("read the first", n, err)
		}
		is(t, g, true, false)
		if got, err := g.Write(y.Secret, two); err != nil || !bytes.Equal(got, second) {
			t.Fatal("second", n, err)
		}
		is(t, g, false, true)
		if got, err := h.Read(second); err != nil || !bytes.Equal(got, two) {
			t.Fatal("read the second", n, err)
		}
		is(t, h, false, true)
		idle(t, h, true, true)
		idle(t, g, true, true)
		for range 2 {
			s, r, err := h.Keys()
			if err != nil || s != send || r != receive || s == r {
				t.Error("keys of who began", err)
			}
			s, r, err = g.Keys()
			if err != nil || s != receive || r != send {
				t.Error("keys of who answered", err)
			}
		}
		if h.Hash() != sum || g.Hash() != sum {
			t.Error("hashes")
		}
	}
}

func TestReadersTurn(t *testing.T) {
	a, b := pair(1), pair(2)
	h := noise.New(true, a, b.Public, nil)
	if got, err := h.Read(text(48)); !errors.Is(err, api.ErrState) || got != nil {
		t.Error("who begins reads first", err)
	}
	g := noise.New(false, b, a.Public, nil)
	first, _ := h.Write(key(3), nil)
	if len(first) != 48 {
		t.Error("an empty payload", len(first))
	}
	if _, err := g.Read(first); err != nil {
		t.Error(err)
	}
	if got, err := g.Read(first); !errors.Is(err, api.ErrState) || got != nil {
		t.Error("who answers reads twice", err)
	}
	if got, err := h.Write(key(4), nil); !errors.Is(err, api.ErrState) || got != nil {
		t.Error("who begins writes twice", err)
	}
}

func TestLengths(t *testing.T) {
	a, b := pair(1), pair(2)
	h, g := noise.New(true, a, b.Public, nil), noise.New(false, b, a.Public, nil)
	for _, n := range []int{1025, 1026, 1 << 17} {
		if got, err := h.Write(key(3), text(n)); !errors.Is(err, api.ErrLen) || got != nil {
			t.Error("write", n, err)
		}
	}
	is(t, h, true, false)
	for _, n := range []int{0, 1, 32, 47, 1073, 1 << 17} {
		if got, err := g.Read(text(n)); !errors.Is(err, api.ErrLen) || got != nil {
			t.Error("read", n, err)
		}
	}
	for _, n := range []int{48, 1072} {
		if got, err := g.Read(text(n)); !errors.Is(err, api.ErrAuth) || got != nil {
			t.Error("read", n, err)
		}
	}
	first, err := h.Write(key(3), text(1024))
	if err != nil || len(first) != 1072 {
		t.Fatal("the longest", err)
	}
	if got, err := g.Read(first); err != nil || !bytes.Equal(got, text(1024)) {
		t.Error("the longest, read", err)
	}
	if got, err := g.Write(key(4), text(1025)); !errors.Is(err, api.ErrLen) || got != nil || g.Done() {
		t.Error("the second one", err)
	}
}

func TestZeroResults(t *testing.T) {
	a := pair(1)
	for _, low := range []api.Key{{}, {1}, {31: 0x80}} {
		h := noise.New(true, a, low, nil)
		hash := h.Hash()
		if got, err := h.Write(key(3), nil); !errors.Is(err, api.ErrRange) || got != nil {
			t.Error("write to such a key", err)
		}
		if got, err := h.Write(key(3), text(1025)); !errors.Is(err, api.ErrLen) || got != nil {
			t.Error("the length comes first", err)
		}
		is(t, h, true, false)
		g := noise.New(false, a, low, nil)
		x := pair(5).Public
		if got, err := g.Read(append(x[:], text(16)...)); !errors.Is(err, api.ErrRange) || got != nil {
			t.Error("read from such a key", err)
		}
		is(t, g, false, false)
		if h.Hash() != hash {
			t.Error("an error changed something")
		}
		b := pair(2)
		g = noise.New(false, b, a.Public, nil)
		if got, err := g.Read(append(low[:], text(16)...)); !errors.Is(err, api.ErrRange) || got != nil {
			t.Error("read such an ephemeral key", err)
		}
		h = noise.New(true, a, b.Public, nil)
		first, _ := h.Write(key(3), nil)
		hash = h.Hash()
		if got, err := h.Read(append(low[:], text(16)...)); !errors.Is(err, api.ErrRange) || got != nil || h.Hash() != hash {
			t.Error("read such a second ephemeral key", err)
		}
		if _, err := g.Read(first); err != nil {
			t.Error("after an error", err)
		}
		second, _ := g.Write(key(4), nil)
		if _, err := h.Read(second); err != nil || !h.Done() {
			t.Error("after an error", err)
		}
	}
}

// changed checks that a side reads no message that was changed, and stays as it is.
func changed(t *testing.T, h *noise.Hands, message []byte) {
	t.Helper()
	hash := h.Hash()
	for i := range message {
		for _, bit := range []byte{1, 0x80} {
			bad := bytes.Clone(message)
			bad[i] ^= bit
			if got, err := h.Read(bad); err == nil || got != nil {
				t.Fatal("byte", i)
			} else if i >= 32 && !errors.Is(err, api.ErrAuth) {
				t.Fatal("byte", i, err)
			}
		}
	}
	for _, bad := range [][]byte{append(bytes.Clone(message), 0), message[:len(message)-1]} {
		if got, err := h.Read(bad); !errors.Is(err, api.ErrAuth) || got != nil {
			t.Fatal("length", len(bad), err)
		}
	}
	if h.Hash() != hash || h.Turn() || h.Done() {
		t.Fatal("an error changed something")
	}
}

func TestChangedMessages(t *testing.T) {
	a, b := pair(1), pair(2)
	h, g := noise.New(true, a, b.Public, text(3)), noise.New(false, b, a.Public, text(3))
	first, _ := h.Write(key(3), text(20))
	changed(t, g, first)
	if got, err := g.Read(first); err != nil || !bytes.Equal(got, text(20)) {
		t.Fatal("after errors", err)
	}
	second, _ := g.Write(key(4), text(30))
	changed(t, h, second)
	if got, err := h.Read(second); err != nil || !bytes.Equal(got, text(30)) {
		t.Fatal("after errors", err)
	}
	s, r, _ := h.Keys()
	if x, y, _ := g.Keys(); s != y || r != x {
		t.Error("keys")
	}
}

func TestStrangers(t *testing.T) {
	a, b, c := pair(1), pair(2), pair(3)
	first, _ := noise.New(true, a, b.Public, text(3)).Write(key(4), nil)
	for i, g := range []*noise.Hands{
		noise.New(false, b, c.Public, text(3)),
		noise.New(false, c, a.Public, text(3)),
		noise.New(false, b, a.Public, text(4)),
		noise.New(false, b, a.Public, nil),
		noise.New(false, a, b.Public, text(3)),
		noise.New(false, api.Pair{Secret: b.Secret, Public: c.Public}, a.Public, text(3)),
		noise.New(false, api.Pair{Secret: c.Secret, Public: b.Public}, a.Public, text(3)),
	} {
		if got, err := g.Read(first); !errors.Is(err, api.ErrAuth) || got != nil {
			t.Error(i, err)
		}
	}
}

func TestOneHandshakeIsNotAnother(t *testing.T) {
	a, b := pair(1), pair(2)
	h, g := noise.New(true, a, b.Public, nil), noise.New(false, b, a.Public, nil)
	h2, g2 := noise.New(true, a, b.Public, nil), noise.New(false, b, a.Public, nil)
	first, _ := h.Write(key(3), nil)
	other, _ := h2.Write(key(4), nil)
	g.Read(first)
	g2.Read(other)
	second, _ := g.Write(key(5), nil)
	if _, err := h2.Read(second); !errors.Is(err, api.ErrAuth) {
		t.Error("the answer to another one", err)
	}
	if _, err := h.Read(second); err != nil {
		t.Error(err)
	}
}

func TestNil(t *testing.T) {
	var h *noise.Hands
	if h.Turn() || h.Done() || h.Hash() != (api.Sum{}) {
		t.Error("not zero")
	}
	if b, err := h.Write(key(1), nil); !errors.Is(err, api.ErrState) || b != nil {
		t.Error("write", err)
	}
	if b, err := h.Read(text(48)); !errors.Is(err, api.ErrState) || b != nil {
		t.Error("read", err)
	}
	if s, r, err := h.Keys(); !errors.Is(err, api.ErrState) || s != (api.Key{}) || r != (api.Key{}) {
		t.Error("keys", err)
	}
}

func TestArgumentsStay(t *testing.T) {
	a, b := pair(1), pair(2)
	prologue, payload := text(50), text(60)
	kept, keptPayload := bytes.Clone(prologue), bytes.Clone(payload)
	h, g := noise.New(true, a, b.Public, prologue[:10]), noise.New(false, b, a.Public, prologue[:10])
	first, _ := h.Write(key(3), payload[:20])
	whole := append(bytes.Clone(first), text(30)...)
	keptWhole := bytes.Clone(whole)
	if !bytes.Equal(prologue, kept) || !bytes.Equal(payload, keptPayload) {
		t.Error("an argument was changed")
	}
	clear(prologue)
	clear(payload)
	if !bytes.Equal(first, keptWhole[:len(first)]) {
		t.Error("the message shares with the payload")
	}
	got, err := g.Read(whole[:len(first)])
	if err != nil || !bytes.Equal(whole, keptWhole) {
		t.Error("an argument was changed", err)
	}
	clear(whole)
	if !bytes.Equal(got, keptPayload[:20]) {
		t.Error("the payload shares with the message")
	}
	second, err := g.Write(key(4), nil)
	if err != nil {
		t.Error(err)
	}
	if _, err := h.Read(second); err != nil {
		t.Error("something was kept", err)
	}
}
