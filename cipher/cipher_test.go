package cipher_test

import (
	"bytes"
	"crypto/hkdf"
	"crypto/sha256"
	"errors"
	"math"
	"math/rand"
	"testing"

	"burrow/aead"
	"burrow/api"
	"burrow/cipher"
)

const last = 1<<32 - 1

func text(n int) []byte {
	b := make([]byte, n)
	rand.New(rand.NewSource(int64(n))).Read(b)
	return b
}

func TestCipher(t *testing.T) {
	key := api.Key(text(32))
	a, b := cipher.New(key), cipher.New(key)
	if !a.Has() || a.Number() != 0 {
		t.Fatal("a new cipher")
	}
	for n := range 40 {
		want, _ := aead.Seal(key, aead.Nonce(n), text(n%7), text(n))
		got, err := a.Hide(text(n%7), text(n))
		if err != nil || !bytes.Equal(got, want) || a.Number() != n+1 {
			t.Fatal("hide", n, err)
		}
		for _, bad := range [][]byte{nil, got[:15], append(bytes.Clone(got), 0), text(60)} {
			if x, err := b.Show(text(n%7), bad); !errors.Is(err, api.ErrAuth) || x != nil || b.Number() != n {
				t.Fatal("show what is wrong", n, err)
			}
		}
		if x, err := b.Show(text(n%7+1), got); !errors.Is(err, api.ErrAuth) || x != nil || b.Number() != n {
			t.Fatal("show with another context", n, err)
		}
		back, err := b.Show(text(n%7), got)
		if err != nil || !bytes.Equal(back, text(n)) || b.Number() != n+1 {
			t.Fatal("show", n, err)
		}
		if x, err := b.Show(text(n%7), got); !errors.Is(err, api.ErrAuth) || x != nil {
			t.Fatal("show twice", n, err)
		}
	}
}

// jumper is a cipher or a state.
type jumper interface {
	Has() bool
	Number() int
	Jump(int) bool
}

// jumps checks what numbers can be set.
func jumps(t *testing.T, c jumper) {
	t.Helper()
	has := c.Has()
	step := func(number int, ok bool, after int) {
		t.Helper()
		if c.Jump(number) != ok || c.Number() != after || c.Has() != has {
			t.Error("jump to", number, "is at", c.Number())
		}
	}
	step(0, true, 0)
	step(-1, false, 0)
	step(math.MinInt, false, 0)
	step(last+1, false, 0)
	step(math.MaxInt, false, 0)
	step(5, true, 5)
	step(5, true, 5)
	step(4, false, 5)
	step(0, false, 5)
	step(last-1, true, last-1)
	step(last, true, last)
	step(last, true, last)
	step(last-1, false, last)
	step(last+1, false, last)
}

func TestJumps(t *testing.T) {
	jumps(t, cipher.New(api.Key{1}))
	jumps(t, cipher.Begin("x"))
	s := cipher.Begin("x")
	s.MixSecret(nil)
	jumps(t, s)
}

func TestUsedUp(t *testing.T) {
	c := cipher.New(api.Key{1})
	if !c.Jump(last - 1) {
		t.Fatal("jump")
	}
	want, _ := aead.Seal(api.Key{1}, aead.Nonce(last-1), nil, text(3))
	if got, err := c.Hide(nil, text(3)); err != nil || !bytes.Equal(got, want) || c.Number() != last {
		t.Error("the last number", err)
	}
	end, _ := aead.Seal(api.Key{1}, aead.Nonce(last), nil, text(3))
	for range 2 {
		if got, err := c.Hide(nil, text(3)); !errors.Is(err, api.ErrUsedUp) || got != nil || c.Number() != last {
			t.Error("hide", err)
		}
		if got, err := c.Show(nil, end); !errors.Is(err, api.ErrUsedUp) || got != nil || c.Number() != last {
			t.Error("show", err)
		}
		if _, err := c.Hide(nil, make([]byte, 1<<20+1)); !errors.Is(err, api.ErrUsedUp) {
			t.Error("used up comes before a length", err)
		}
	}
	d := cipher.New(api.Key{1})
	d.Jump(last - 1)
	if got, err := d.Show(nil, want); err != nil || !bytes.Equal(got, text(3)) || d.Number() != last {
		t.Error("show the last", err)
	}
}

func TestLengths(t *testing.T) {
	most := make([]byte, 1<<20+17)
	c, s := cipher.New(api.Key{1}), cipher.Begin("x")
	s.MixSecret(nil)
	if got, err := c.Hide(nil, most[:1<<20+1]); !errors.Is(err, api.ErrLen) || got != nil {
		t.Error("hide", err)
	}
	if got, err := c.Hide(most[:1<<20+1], nil); !errors.Is(err, api.ErrLen) || got != nil {
		t.Error("hide, context", err)
	}
	if got, err := c.Show(nil, most); !errors.Is(err, api.ErrLen) || got != nil {
		t.Error("show", err)
	}
	before := s.Hash()
	if got, err := s.Hide(most[:1<<20+1]); !errors.Is(err, api.ErrLen) || got != nil {
		t.Error("state, hide", err)
	}
	if got, err := s.Show(most); !errors.Is(err, api.ErrLen) || got != nil {
		t.Error("state, show", err)
	}
	if c.Number() != 0 || s.Number() != 0 || s.Hash() != before {
		t.Error("something changed")
	}
}

// model is a state, by its definition.
type model struct {
	chain, hash []byte
	key         api.Key
	has         bool
	number      int
}

func begin(name string) *model {
	h := sha256.Sum256([]byte(name))
	return &model{chain: h[:], hash: h[:]}
}

func (m *model) mixText(b []byte) {
	h := sha256.Sum256(append(bytes.Clone(m.hash), b...))
	m.hash = h[:]
}

func (m *model) mixSecret(secret []byte) {
	t, _ := hkdf.Extract(sha256.New, secret, m.chain)
	b, _ := hkdf.Expand(sha256.New, t, "", 64)
	m.chain, m.key, m.has, m.number = b[:32], api.Key(b[32:]), true, 0
}

func (m *model) hide(b []byte) []byte {
	out := bytes.Clone(b)
	if m.has {
		out, _ = aead.Seal(m.key, aead.Nonce(m.number), m.hash, b)
		m.number++
	}
	m.mixText(out)
	return out
}

func (m *model) split() (api.Key, api.Key) {
	b, _ := hkdf.Expand(sha256.New, m.chain, "", 64)
	return api.Key(b[:32]), api.Key(b[32:])
}

// like checks that a state is what the model says.
func (m *model) like(t *testing.T, s *cipher.State) {
	t.Helper()
	one, two := s.Split()
	a, b := m.split()
	if !bytes.Equal(m.hash, func() []byte { h := s.Hash(); return h[:] }()) || s.Has() != m.has || one != a || two != b {
		t.Fatal("not like the model")
	}
	if m.has && s.Number() != m.number {
		t.Fatal("number", s.Number(), m.number)
	}
}

func TestStatesInAnyOrder(t *testing.T) {
	r := rand.New(rand.NewSource(1))
	for _, name := range []string{"", "x", "Noise_KK_25519_ChaChaPoly_SHA256", "a name that is longer than a digest, of course"} {
		a, b, m := cipher.Begin(name), cipher.Begin(name), begin(name)
		for range 150 {
			x := text(r.Intn(100))
			switch r.Intn(4) {
			case 0:
				cut := r.Intn(len(x) + 1)
				a.MixText(x)
				b.MixText(x[:cut], nil, x[cut:])
				m.mixText(x)
			case 1:
				if r.Intn(3) > 0 {
					continue
				}
				a.MixSecret(x)
				b.MixSecret(x)
				m.mixSecret(x)
			default: // in turn, one of both hides
				want := m.hide(x)
				got, err := a.Hide(x)
				if err != nil || !bytes.Equal(got, want) {
					t.Fatal("hide", err)
				}
				refuse(t, b, got)
				back, err := b.Show(got)
				if err != nil || !bytes.Equal(back, x) {
					t.Fatal("show", err)
				}
				a, b = b, a
			}
			m.like(t, a)
			m.like(t, b)
		}
	}
}

// refuse checks that a state with a key doesn't show what was changed, and stays as it is.
func refuse(t *testing.T, s *cipher.State, sealed []byte) {
	t.Helper()
	if !s.Has() {
		return
	}
	hash, number := s.Hash(), s.Number()
	one, two := s.Split()
	for i := range sealed {
		if i%5 != 0 {
			continue
		}
		bad := bytes.Clone(sealed)
		bad[i] ^= 4
		if got, err := s.Show(bad); !errors.Is(err, api.ErrAuth) || got != nil {
			t.Fatal("show what was changed", i, err)
		}
	}
	a, b := s.Split()
	if s.Hash() != hash || s.Number() != number || a != one || b != two || !s.Has() {
		t.Fatal("an error changed the state")
	}
}

func TestStateWithoutAKey(t *testing.T) {
	s := cipher.Begin("x")
	if s.Has() || s.Number() != 0 || s.Hash() != sha256.Sum256([]byte("x")) {
		t.Error("a new state")
	}
	for _, n := range []int{0, 1, 100} {
		if got, err := s.Hide(text(n)); err != nil || !bytes.Equal(got, text(n)) {
			t.Error("hide", n, err)
		}
		if got, err := s.Show(text(n)); err != nil || !bytes.Equal(got, text(n)) {
			t.Error("show", n, err)
		}
	}
	s = cipher.Begin("x")
	if !s.Jump(last) {
		t.Error("jump")
	}
	if got, err := s.Hide(text(9)); err != nil || !bytes.Equal(got, text(9)) {
		t.Error("without a key nothing is used up", err)
	}
	s.MixSecret(text(5))
	if !s.Has() || s.Number() != 0 {
		t.Error("a secret begins at 0")
	}
}

func TestStateUsedUp(t *testing.T) {
	s := cipher.Begin("x")
	s.MixSecret(nil)
	s.Jump(last)
	hash := s.Hash()
	if got, err := s.Hide(text(3)); !errors.Is(err, api.ErrUsedUp) || got != nil {
		t.Error("hide", err)
	}
	if got, err := s.Show(text(30)); !errors.Is(err, api.ErrUsedUp) || got != nil {
		t.Error("show", err)
	}
	if s.Hash() != hash || s.Number() != last {
		t.Error("something changed")
	}
	s.MixSecret(nil)
	if _, err := s.Hide(text(3)); err != nil || s.Number() != 1 {
		t.Error("after another secret", err)
	}
}

func TestMixTextIsOneText(t *testing.T) {
	a, b, c := cipher.Begin("x"), cipher.Begin("x"), cipher.Begin("x")
	a.MixText([]byte("one"), []byte("two"))
	b.MixText([]byte("onetwo"))
	c.MixText([]byte("one"))
	c.MixText([]byte("two"))
	if a.Hash() != b.Hash() || a.Hash() == c.Hash() {
		t.Error("parts")
	}
	before := a.Hash()
	a.MixText()
	if a.Hash() != sha256.Sum256(before[:]) {
		t.Error("an empty text is mixed in too")
	}
}

func TestNil(t *testing.T) {
	var c *cipher.Cipher
	var s *cipher.State
	s.MixText(text(3))
	s.MixSecret(text(3))
	if c.Has() || s.Has() || c.Number() != 0 || s.Number() != 0 || c.Jump(0) || s.Jump(0) || s.Hash() != (api.Sum{}) {
		t.Error("not zero")
	}
	if a, b := s.Split(); a != (api.Key{}) || b != (api.Key{}) {
		t.Error("split")
	}
	for i, f := range []func() ([]byte, error){
		func() ([]byte, error) { return c.Hide(text(3), text(3)) },
		func() ([]byte, error) { return c.Show(text(3), text(30)) },
		func() ([]byte, error) { return s.Hide(text(3)) },
		func() ([]byte, error) { return s.Show(text(30)) },
	} {
		if b, err := f(); !errors.Is(err, api.ErrUsedUp) || b != nil {
			t.Error(i, err)
		}
	}
}

func TestArgumentsStay(t *testing.T) {
	whole := text(200)
	kept := bytes.Clone(whole)
	c, s, bare := cipher.New(api.Key{1}), cipher.Begin("x"), cipher.Begin("x")
	other := cipher.New(api.Key{1})
	parts := make([][]byte, 1, 3)
	parts[0] = whole[:20]
	s.MixText(parts...)
	s.MixSecret(whole[:20])
	a, _ := c.Hide(whole[:10], whole[10:30])
	b, _ := s.Hide(whole[:50])
	d, _ := bare.Hide(whole[:50])
	e, _ := bare.Show(whole[:50])
	f, _ := other.Show(whole[:10], a)
	if !bytes.Equal(whole, kept) || parts[:2][1] != nil {
		t.Error("an argument was changed")
	}
	hash := s.Hash()
	keptA, keptB := bytes.Clone(a), bytes.Clone(b)
	clear(whole)
	if !bytes.Equal(a, keptA) || !bytes.Equal(b, keptB) || !bytes.Equal(d, kept[:50]) || !bytes.Equal(e, kept[:50]) || !bytes.Equal(f, kept[10:30]) || s.Hash() != hash {
		t.Error("a result shares with an argument")
	}
}
