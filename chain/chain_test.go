package chain_test

import (
	"bytes"
	"crypto/hkdf"
	"crypto/sha256"
	"errors"
	"math"
	"math/rand"
	"testing"

	"burrow/api"
	"burrow/chain"
)

const last = 1<<32 - 1

// labelled is a labelled secret without a context, by the standard library.
func labelled(secret []byte, label string, n int) []byte {
	info := append([]byte{0, byte(n), byte(len(label))}, label...)
	b, err := hkdf.Expand(sha256.New, secret, string(append(info, 0, 0, 0, 0)), n)
	if err != nil {
		panic(err)
	}
	return b
}

// leafSecret is a leaf's secret: from the root down, left or right by the bits of its number.
func leafSecret(packets api.Sum, leaf, leaves int) []byte {
	secret := packets[:]
	for half := leaves / 2; half > 0; half /= 2 {
		if leaf&half == 0 {
			secret = labelled(secret, "left", 32)
		} else {
			secret = labelled(secret, "right", 32)
		}
	}
	return secret
}

// model is the chain of a leaf, by the definition.
type model struct {
	links           [][]byte
	place, shift    int // the link of the place is that of so many steps less
	taken           map[int]int
	skipped         map[int][]byte
	highest, lowest int
}

func newModel(packets api.Sum, leaf, leaves int) *model {
	return &model{links: [][]byte{leafSecret(packets, leaf, leaves)}, taken: map[int]int{}, skipped: map[int][]byte{}, highest: -1}
}

// key is what a number not below the place has.
func (m *model) key(number int) []byte {
	for len(m.links) <= number-m.shift {
		m.links = append(m.links, labelled(m.links[len(m.links)-1], "next", 32))
	}
	return labelled(m.links[number-m.shift], "key", 44)
}

func (m *model) check(number int) error {
	switch {
	case number < 0 || number >= last:
		return api.ErrUsedUp
	case number < m.highest-64:
		return api.ErrOld
	case number < m.lowest || m.taken[number] > 0:
		return api.ErrReplay
	case number > m.place+256:
		return api.ErrFar
	}
	return nil
}

func (m *model) look(number int) []byte {
	if number < m.place {
		return m.skipped[number]
	}
	return m.key(number)
}

func (m *model) take(number int) {
	for ; m.place < number; m.place++ {
		m.skipped[m.place] = m.key(m.place)
	}
	m.place = max(m.place, number+1)
	m.highest = max(m.highest, number)
	m.taken[number] = 1
	delete(m.skipped, number)
	for n := range m.skipped {
		if n < m.highest-64 {
			delete(m.skipped, n)
		}
	}
}

func (m *model) jump(number int) bool {
	if number < m.place || number > last {
		return false
	}
	m.shift += number - m.place
	m.place, m.lowest, m.highest = number, number, max(m.highest, number-1)
	clear(m.skipped)
	return true
}

func is(err, want error) bool {
	if want == nil {
		return err == nil
	}
	return errors.Is(err, want)
}

// same checks what a call returned.
func same(t *testing.T, what string, number int, got chain.Once, err, wrong error, want []byte) {
	t.Helper()
	if !is(err, wrong) {
		t.Fatal(what, number, err, wrong)
	}
	if err != nil {
		if got.Number != 0 || got.Key != (api.Key{}) || got.Nonce != nil {
			t.Fatal(what, number, "something beside an error")
		}
		return
	}
	if got.Number != number || !bytes.Equal(got.Key[:], want[:32]) || !bytes.Equal(got.Nonce, want[32:]) {
		t.Fatal(what, number, "another key")
	}
}

// both is chains and what they should be.
type both struct {
	c *chain.Chains
	m *model
	i int
}

func (b both) like(t *testing.T) {
	t.Helper()
	if b.c.Place(b.i) != b.m.place || b.c.Held(b.i) != len(b.m.skipped) || b.c.Held(b.i) > 64 {
		t.Fatal("place", b.c.Place(b.i), b.m.place, "held", b.c.Held(b.i), len(b.m.skipped))
	}
}

func (b both) take(t *testing.T, number int) {
	t.Helper()
	wrong := b.m.check(number)
	var want []byte
	if wrong == nil {
		want = b.m.look(number)
	}
	for range 2 {
		got, err := b.c.Look(b.i, number)
		same(t, "look", number, got, err, wrong, want)
		clear(got.Nonce)
		b.like(t)
	}
	got, err := b.c.Take(b.i, number)
	same(t, "take", number, got, err, wrong, want)
	clear(got.Nonce)
	if wrong == nil {
		b.m.take(number)
	}
	b.like(t)
}

func (b both) next(t *testing.T) {
	t.Helper()
	number := b.m.place
	if number == last {
		got, err := b.c.Next(b.i)
		same(t, "next", number, got, err, api.ErrUsedUp, nil)
		return
	}
	want := b.m.key(number)
	got, err := b.c.Next(b.i)
	same(t, "next", number, got, err, nil, want)
	b.m.take(number)
	b.like(t)
}

func (b both) jump(t *testing.T, number int) {
	t.Helper()
	if b.c.Jump(b.i, number) != b.m.jump(number) {
		t.Fatal("jump", number)
	}
	b.like(t)
}

func packets(n int) (s api.Sum) {
	rand.New(rand.NewSource(int64(n))).Read(s[:])
	return s
}

func TestAllLeaves(t *testing.T) {
	for _, leaves := range []int{1, 2, 4, 8, 16, 32} {
		c := chain.New(packets(leaves), leaves)
		for i := range leaves {
			b := both{c, newModel(packets(leaves), i, leaves), i}
			b.like(t)
			b.next(t)
			b.next(t)
			b.take(t, 3)
			b.take(t, 2)
			b.take(t, 2)
		}
	}
}

func TestAnyOrder(t *testing.T) {
	r := rand.New(rand.NewSource(1))
	for round := range 12 {
		c := chain.New(packets(round), 4)
		var all []both
		for i := range 4 {
			all = append(all, both{c, newModel(packets(round), i, 4), i})
		}
		for range 120 {
			b := all[r.Intn(4)]
			switch p := b.m.place; r.Intn(12) {
			case 0:
				b.next(t)
			case 1:
				b.take(t, []int{-1, math.MinInt, last, last + 1, math.MaxInt, last - 1, p + 256, p + 257, p + 255, p - 65, p - 66}[r.Intn(11)])
			case 2:
				b.take(t, p+r.Intn(80))
			case 3:
				if r.Intn(4) == 0 {
					b.jump(t, p+r.Intn(100)-10)
				}
			case 4, 5:
				b.take(t, p+r.Intn(4))
			default:
				b.take(t, p-r.Intn(70))
			}
			for _, x := range all {
				x.like(t)
			}
		}
	}
}

func TestExample(t *testing.T) {
	c := chain.New(packets(1), 1)
	if _, err := c.Take(0, 2); err != nil || c.Held(0) != 2 || c.Place(0) != 3 {
		t.Error(c.Held(0), err)
	}
}

func TestHowFar(t *testing.T) {
	for _, ahead := range []int{0, 1, 63, 64, 65, 66, 128, 255, 256} {
		b := both{chain.New(packets(2), 2), newModel(packets(2), 1, 2), 1}
		b.take(t, 257)
		b.take(t, 256+1)
		b.take(t, ahead)
		if want := min(64, ahead); b.c.Held(1) != want {
			t.Error("held", ahead, b.c.Held(1))
		}
		for n := range 260 {
			b.take(t, n)
		}
		b.take(t, b.m.place+256)
	}
}

func TestSkippedKeysGetOld(t *testing.T) {
	b := both{chain.New(packets(3), 2), newModel(packets(3), 0, 2), 0}
	for n := 0; n < 400; n += 3 {
		b.take(t, n)
	}
	for n := range 400 {
		b.take(t, n)
	}
	if b.c.Held(0) != 0 {
		t.Error("held", b.c.Held(0))
	}
}

func TestJumps(t *testing.T) {
	b := both{chain.New(packets(4), 2), newModel(packets(4), 1, 2), 1}
	for _, n := range []int{-1, math.MinInt, last + 1, math.MaxInt} {
		b.jump(t, n)
	}
	b.jump(t, 0)
	b.take(t, 10)
	b.jump(t, 10)
	if b.c.Held(1) != 10 {
		t.Error("a jump that wasn't made", b.c.Held(1))
	}
	b.jump(t, 11)
	if b.c.Held(1) != 0 {
		t.Error("keys are kept")
	}
	for n := range 11 {
		b.take(t, n)
	}
	b.next(t)
	b.take(t, 20)
	b.jump(t, 23)
	for n := range 25 {
		b.take(t, n)
	}
	b.jump(t, 1000)
	for n := 900; n < 1003; n++ {
		b.take(t, n)
	}
	b.jump(t, last-3)
	b.take(t, last-1)
	b.take(t, last-2)
	b.take(t, last-3)
	b.take(t, last-4)
	b.take(t, last-67)
	b.next(t)
	b.take(t, last)
	b.jump(t, last)
	b.jump(t, last+1)
	b.next(t)
}

func TestJumpToTheEnd(t *testing.T) {
	b := both{chain.New(packets(5), 1), newModel(packets(5), 0, 1), 0}
	b.jump(t, last)
	b.next(t)
	b.next(t)
	b.take(t, 0)
	b.take(t, last-1)
	b.take(t, last)
	c := both{chain.New(packets(5), 1), newModel(packets(5), 0, 1), 0}
	c.jump(t, last-1)
	c.next(t)
	c.next(t)
}

func TestWhatIsNoLeaf(t *testing.T) {
	var none *chain.Chains
	list := []*chain.Chains{none}
	for _, leaves := range []int{0, -1, 3, 5, 6, 31, 33, 64, math.MinInt, math.MaxInt} {
		c := chain.New(packets(6), leaves)
		if c == nil {
			t.Fatal("nil", leaves)
		}
		list = append(list, c)
	}
	for k, c := range list {
		for _, i := range []int{0, 1, -1, 32, math.MinInt, math.MaxInt} {
			noLeaf(t, c, k, i)
		}
	}
	for _, i := range []int{-1, 4, 5, 32, math.MinInt, math.MaxInt} {
		noLeaf(t, chain.New(packets(6), 4), 99, i)
	}
}

func noLeaf(t *testing.T, c *chain.Chains, k, i int) {
	t.Helper()
	got, err := c.Next(i)
	same(t, "next", k, got, err, api.ErrMember, nil)
	for _, n := range []int{0, 5, -1, last, 1000} {
		got, err = c.Take(i, n)
		same(t, "take", k, got, err, api.ErrMember, nil)
		got, err = c.Look(i, n)
		same(t, "look", k, got, err, api.ErrMember, nil)
	}
	if c.Place(i) != -1 || c.Held(i) != 0 || c.Jump(i, 0) || c.Jump(i, 5) {
		t.Error("no leaf", k, i)
	}
}

func TestNoKeyTwice(t *testing.T) {
	seen := map[string]int{}
	c := chain.New(packets(7), 8)
	for i := range 8 {
		for n := range 20 {
			o, err := c.Next(i)
			if err != nil || o.Number != n {
				t.Fatal(err)
			}
			k := string(o.Key[:]) + string(o.Nonce)
			if seen[k]++; seen[k] > 1 {
				t.Error("the same key twice", i, n)
			}
		}
	}
	a, b := chain.New(packets(7), 8), chain.New(packets(7), 8)
	for n := 19; n >= 0; n-- {
		x, _ := a.Take(3, n)
		y, _ := b.Next(3)
		if y.Number == n && x.Key != y.Key {
			t.Error("another key for the same number")
		}
		if seen[string(x.Key[:])+string(x.Nonce)] != 1 {
			t.Error("backwards, another key", n)
		}
	}
}
