package packet_test

import (
	"bytes"
	"encoding/binary"
	"errors"
	"math"
	"math/rand"
	"slices"
	"testing"

	"burrow/aead"
	"burrow/api"
	"burrow/chain"
	"burrow/packet"
)

const last = 1<<32 - 1

func text(n int) []byte {
	b := make([]byte, n)
	rand.New(rand.NewSource(int64(n))).Read(b)
	return b
}

func sum(n int) (s api.Sum) {
	rand.New(rand.NewSource(int64(n))).Read(s[:])
	return s
}

// is checks how a box stands.
func is(t *testing.T, b *packet.Box, next int, epochs ...int) {
	t.Helper()
	if !slices.Equal(b.Epochs(), epochs) || b.Next() != next {
		t.Fatal("epochs", b.Epochs(), epochs, "next", b.Next(), next)
	}
}

// boxOf is the box of a leaf in an epoch.
func boxOf(t *testing.T, epoch, leaves, leaf int) *packet.Box {
	t.Helper()
	b := packet.New()
	enter(t, b, epoch, leaves, leaf)
	return b
}

func enter(t *testing.T, b *packet.Box, epoch, leaves, leaf int) {
	t.Helper()
	if err := b.Enter(sum(1), epoch, sum(100+epoch), leaves, leaf); err != nil {
		t.Fatal("enter", epoch, err)
	}
}

// sealed is the packet of an epoch, a leaf and a number, by the definition.
func sealed(t *testing.T, epoch, leaves, leaf, number int, payload []byte) api.Packet {
	t.Helper()
	c := chain.New(sum(100+epoch), leaves)
	once, err := c.Take(leaf, number)
	if err != nil {
		t.Fatal(err)
	}
	group := sum(1)
	context := binary.BigEndian.AppendUint32(group[:], uint32(epoch))
	context = binary.BigEndian.AppendUint32(append(context, byte(leaf)), uint32(number))
	b, err := aead.Seal(once.Key, once.Nonce, context, payload)
	if err != nil {
		t.Fatal(err)
	}
	return api.Packet{Group: group, Epoch: epoch, From: leaf, Number: number, Sealed: b}
}

func same(a, b api.Packet) bool {
	return a.Group == b.Group && a.Epoch == b.Epoch && a.From == b.From && a.Number == b.Number && bytes.Equal(a.Sealed, b.Sealed)
}

// refused checks that a packet can't be opened.
func refused(t *testing.T, what string, b *packet.Box, p api.Packet, want error) {
	t.Helper()
	epochs, next := b.Epochs(), b.Next()
	if got, err := b.Open(p); !errors.Is(err, want) || got != nil {
		t.Error(what, err, want)
	}
	is(t, b, next, epochs...)
}

func opened(t *testing.T, b *packet.Box, p api.Packet, payload []byte) {
	t.Helper()
	if got, err := b.Open(p); err != nil || !bytes.Equal(got, payload) {
		t.Fatal("open", p.Epoch, p.From, p.Number, err)
	}
}

func TestEnter(t *testing.T) {
	b := packet.New()
	is(t, b, 0)
	refuse := func(what string, want error, group api.Sum, epoch, leaves, leaf int) {
		t.Helper()
		epochs := b.Epochs()
		if err := b.Enter(group, epoch, sum(5), leaves, leaf); !errors.Is(err, want) {
			t.Error(what, err)
		}
		is(t, b, b.Next(), epochs...)
	}
	wrong := func() {
		t.Helper()
		for _, leaves := range []int{0, -1, 3, 5, 31, 33, 64, math.MinInt, math.MaxInt} {
			refuse("leaves", api.ErrForm, sum(1), 90, leaves, 0)
			refuse("leaves and epoch", api.ErrForm, sum(1), -1, leaves, 0)
		}
		for _, leaf := range []int{-1, 4, 5, math.MinInt, math.MaxInt} {
			refuse("leaf", api.ErrForm, sum(1), 90, 4, leaf)
		}
		for _, epoch := range []int{-1, last + 1, math.MinInt, math.MaxInt} {
			refuse("epoch", api.ErrEpoch, sum(1), epoch, 4, 0)
		}
	}
	wrong()
	enter(t, b, 7, 4, 3)
	is(t, b, 0, 7)
	wrong()
	for _, epoch := range []int{7, 6, 0} {
		refuse("not later", api.ErrEpoch, sum(1), epoch, 4, 0)
	}
	refuse("another group", api.ErrEpoch, sum(2), 8, 4, 0)
	enter(t, b, 8, 32, 31)
	enter(t, b, 10, 1, 0)
	enter(t, b, 11, 2, 1)
	is(t, b, 0, 7, 8, 10, 11)
	enter(t, b, 50, 4, 1)
	is(t, b, 0, 8, 10, 11, 50)
	enter(t, b, last, 4, 1)
	is(t, b, 0, 10, 11, 50, last)
	refuse("after the last", api.ErrEpoch, sum(1), last, 4, 1)
	zero := packet.New()
	if err := zero.Enter(sum(9), 0, sum(5), 1, 0); err != nil {
		t.Error("epoch 0", err)
	}
	is(t, zero, 0, 0)
}

func TestSealAndOpen(t *testing.T) {
	for _, n := range []int{0, 1, 16, 100, 1023, 1024} {
		a, b, c := boxOf(t, 3, 4, 1), boxOf(t, 3, 4, 2), boxOf(t, 3, 4, 0)
		for number := range 3 {
			p, err := a.Seal(text(n))
			if err != nil || !same(p, sealed(t, 3, 4, 1, number, text(n))) {
				t.Fatal("seal", n, number, err)
			}
			is(t, a, number+1, 3)
			opened(t, b, p, text(n))
			refused(t, "twice", b, p, api.ErrReplay)
			opened(t, c, p, text(n))
			refused(t, "its own", a, p, api.ErrMember)
			is(t, b, 0, 3)
		}
	}
}

func TestSealErrors(t *testing.T) {
	b := packet.New()
	for _, n := range []int{0, 1024, 1025} {
		if p, err := b.Seal(text(n)); !errors.Is(err, api.ErrState) || !same(p, api.Packet{}) {
			t.Error("no epoch", err)
		}
	}
	enter(t, b, 3, 4, 1)
	for _, n := range []int{1025, 1026, 1 << 17} {
		if p, err := b.Seal(text(n)); !errors.Is(err, api.ErrLen) || !same(p, api.Packet{}) {
			t.Error("long", err)
		}
	}
	is(t, b, 0, 3)
	if !b.Jump(last - 1) {
		t.Fatal("jump")
	}
	if p, err := b.Seal(nil); err != nil || p.Number != last-1 {
		t.Error("the last number", err)
	}
	is(t, b, last, 3)
	for range 2 {
		if p, err := b.Seal(nil); !errors.Is(err, api.ErrUsedUp) || !same(p, api.Packet{}) {
			t.Error("used up", err)
		}
	}
	if _, err := b.Seal(text(1025)); !errors.Is(err, api.ErrLen) {
		t.Error("the length comes first", err)
	}
	is(t, b, last, 3)
	enter(t, b, 4, 4, 1)
	if p, err := b.Seal(nil); err != nil || p.Number != 0 || p.Epoch != 4 {
		t.Error("the next epoch begins anew", err)
	}
}

func TestJump(t *testing.T) {
	b := packet.New()
	if b.Jump(0) || b.Jump(5) {
		t.Error("no epoch")
	}
	enter(t, b, 3, 2, 1)
	for i, x := range []struct {
		number int
		ok     bool
		after  int
	}{{0, true, 0}, {-1, false, 0}, {5, true, 5}, {4, false, 5}, {last + 1, false, 5}, {last, true, last}, {last, true, last}} {
		if b.Jump(x.number) != x.ok {
			t.Error("jump", i)
		}
		is(t, b, x.after, 3)
	}
	enter(t, b, 4, 2, 0)
	is(t, b, 0, 3, 4)
	b.Jump(9)
	is(t, b, 9, 3, 4)
	other := boxOf(t, 4, 2, 1)
	p, _ := other.Seal(text(3))
	opened(t, b, p, text(3))
	is(t, b, 9, 3, 4)
}

func TestOpenErrors(t *testing.T) {
	none := packet.New()
	good := sealed(t, 3, 4, 1, 5, text(20))
	refused(t, "no epoch", none, good, api.ErrState)
	refused(t, "no epoch, no form", none, api.Packet{From: -1}, api.ErrState)
	b := boxOf(t, 2, 4, 2)
	enter(t, b, 3, 4, 2)
	bad := func(what string, want error, change func(p *api.Packet)) {
		t.Helper()
		p := good
		p.Sealed = bytes.Clone(p.Sealed)
		change(&p)
		refused(t, what, b, p, want)
	}
	long := text(1041)
	for _, n := range []int{-1, 32, math.MaxInt} {
		bad("from", api.ErrForm, func(p *api.Packet) { p.From = n })
	}
	for _, n := range []int{-1, last + 1, math.MaxInt} {
		bad("epoch", api.ErrForm, func(p *api.Packet) { p.Epoch = n })
		bad("number", api.ErrForm, func(p *api.Packet) { p.Number = n })
		bad("number, long", api.ErrForm, func(p *api.Packet) { p.Number = n; p.Sealed = long })
	}
	bad("much too long", api.ErrForm, func(p *api.Packet) { p.Sealed = make([]byte, 1<<16) })
	bad("long", api.ErrLen, func(p *api.Packet) { p.Sealed = long })
	bad("long, of another group", api.ErrLen, func(p *api.Packet) { p.Sealed = long; p.Group[0]++ })
	bad("not too long", api.ErrAuth, func(p *api.Packet) { p.Sealed = long[:1040] })
	bad("group", api.ErrEpoch, func(p *api.Packet) { p.Group[31]++ })
	for _, n := range []int{0, 1, 4, last} {
		bad("no such epoch", api.ErrEpoch, func(p *api.Packet) { p.Epoch = n })
		bad("no such epoch, own leaf", api.ErrEpoch, func(p *api.Packet) { p.Epoch = n; p.From = 2 })
	}
	bad("own leaf", api.ErrMember, func(p *api.Packet) { p.From = 2 })
	bad("own leaf, last number", api.ErrMember, func(p *api.Packet) { p.From = 2; p.Number = last })
	bad("no leaf", api.ErrMember, func(p *api.Packet) { p.From = 4 })
	bad("no leaf", api.ErrMember, func(p *api.Packet) { p.From = 31 })
	bad("last number", api.ErrUsedUp, func(p *api.Packet) { p.Number = last })
	bad("far", api.ErrFar, func(p *api.Packet) { p.Number = 257 })
	bad("far", api.ErrFar, func(p *api.Packet) { p.Number = last - 1 })
	bad("not too far", api.ErrAuth, func(p *api.Packet) { p.Number = 256 })
	bad("another leaf", api.ErrAuth, func(p *api.Packet) { p.From = 0 })
	bad("another number", api.ErrAuth, func(p *api.Packet) { p.Number = 6 })
	bad("another epoch", api.ErrAuth, func(p *api.Packet) { p.Epoch = 2 })
	for i := range good.Sealed {
		bad("sealed", api.ErrAuth, func(p *api.Packet) { p.Sealed[i] ^= 1 })
		bad("sealed, cut", api.ErrAuth, func(p *api.Packet) { p.Sealed = p.Sealed[:i] })
	}
	opened(t, b, good, text(20))
	bad("twice", api.ErrReplay, func(p *api.Packet) {})
	bad("twice, changed", api.ErrReplay, func(p *api.Packet) { p.Sealed[0] ^= 1 })
	opened(t, b, sealed(t, 3, 4, 1, 70, nil), nil)
	bad("old", api.ErrOld, func(p *api.Packet) { p.Number = 5 })
	refused(t, "old", b, sealed(t, 3, 4, 1, 4, nil), api.ErrOld)
	opened(t, b, sealed(t, 3, 4, 1, 6, text(9)), text(9))
	opened(t, b, sealed(t, 3, 4, 3, 0, text(9)), text(9))
	opened(t, b, sealed(t, 2, 4, 1, 5, text(8)), text(8))
}

func TestTheLastEpochs(t *testing.T) {
	a, b := packet.New(), packet.New()
	var sent []api.Packet
	for epoch := range 9 {
		enter(t, a, epoch, 8, 3)
		enter(t, b, epoch, 8, 5)
		for range 3 {
			p, err := a.Seal(text(epoch))
			if err != nil || p.Epoch != epoch {
				t.Fatal(err)
			}
			sent = append(sent, p)
		}
		for _, p := range sent {
			switch {
			case p.Epoch <= epoch-4:
				refused(t, "an epoch that is gone", b, p, api.ErrEpoch)
			case epoch-p.Epoch == p.Number+1: // one packet of each epoch is opened one, two and three epochs later
				opened(t, b, p, text(p.Epoch))
			case epoch-p.Epoch > p.Number+1:
				refused(t, "twice", b, p, api.ErrReplay)
			}
		}
	}
}

func TestAnotherLeafInEachEpoch(t *testing.T) {
	a := boxOf(t, 1, 4, 0)
	enter(t, a, 2, 2, 1)
	b := boxOf(t, 1, 4, 1)
	enter(t, b, 2, 2, 0)
	p, _ := b.Seal(text(5))
	if p.From != 0 {
		t.Error("from", p.From)
	}
	opened(t, a, p, text(5))
	opened(t, a, sealed(t, 1, 4, 1, 0, text(6)), text(6))
	refused(t, "its own leaf of that epoch", a, sealed(t, 1, 4, 0, 0, nil), api.ErrMember)
	refused(t, "its own leaf of that epoch", a, sealed(t, 2, 2, 1, 0, nil), api.ErrMember)
}

func TestClear(t *testing.T) {
	b := boxOf(t, 3, 4, 1)
	p := sealed(t, 3, 4, 2, 0, nil)
	b.Clear()
	for range 2 {
		is(t, b, 0)
		refused(t, "cleared", b, p, api.ErrState)
		if _, err := b.Seal(nil); !errors.Is(err, api.ErrState) || b.Jump(3) {
			t.Error("seal, jump", err)
		}
		for _, leaves := range []int{4, 3, -1} {
			if err := b.Enter(sum(1), 4, sum(5), leaves, 0); !errors.Is(err, api.ErrState) {
				t.Error("enter", err)
			}
		}
		b.Clear()
	}
	fresh := packet.New()
	fresh.Clear()
	if err := fresh.Enter(sum(1), 4, sum(5), 4, 0); !errors.Is(err, api.ErrState) {
		t.Error("cleared before any epoch", err)
	}
}

func TestNil(t *testing.T) {
	var b *packet.Box
	b.Clear()
	is(t, b, 0)
	refused(t, "nil", b, api.Packet{}, api.ErrState)
	if _, err := b.Seal(nil); !errors.Is(err, api.ErrState) || b.Jump(0) {
		t.Error("seal, jump", err)
	}
	if err := b.Enter(sum(1), 4, sum(5), 4, 0); !errors.Is(err, api.ErrState) {
		t.Error("enter", err)
	}
}

func TestAnyOrder(t *testing.T) {
	r := rand.New(rand.NewSource(1))
	a, b := boxOf(t, 1, 4, 0), boxOf(t, 1, 4, 3)
	model := chain.New(sum(101), 4)
	var sent []api.Packet
	for range 400 {
		if r.Intn(2) == 0 {
			p, err := a.Seal(text(len(sent)))
			if err != nil {
				t.Fatal(err)
			}
			sent = append(sent, p)
			continue
		}
		if len(sent) == 0 {
			continue
		}
		n := max(0, len(sent)-1-r.Intn(90))
		_, want := model.Take(0, n)
		if want != nil {
			refused(t, "any order", b, sent[n], want)
		} else {
			opened(t, b, sent[n], text(n))
		}
	}
}

func TestArgumentsStay(t *testing.T) {
	a, b := boxOf(t, 1, 2, 0), boxOf(t, 1, 2, 1)
	whole := text(100)
	kept := bytes.Clone(whole)
	p, err := a.Seal(whole[:40])
	if err != nil || !bytes.Equal(whole, kept) {
		t.Error("an argument was changed", err)
	}
	clear(whole)
	room := append(bytes.Clone(p.Sealed), text(50)...)
	keptRoom := bytes.Clone(room)
	p.Sealed = room[:len(p.Sealed)]
	got, err := b.Open(p)
	if err != nil || !bytes.Equal(room, keptRoom) {
		t.Error("an argument was changed", err)
	}
	clear(room)
	if !bytes.Equal(got, kept[:40]) {
		t.Error("a result shares with an argument")
	}
	epochs := b.Epochs()
	epochs[0] = 99
	is(t, b, 0, 1)
}

// TestLargeNumbers: all bytes of an epoch and of a number are in the context.
func TestLargeNumbers(t *testing.T) {
	for _, x := range [][2]int{{0x01020304, 0x05060708}, {0x7fffffff, 0x80000000}, {1<<32 - 1, 1<<32 - 2}, {0x00ff00ff, 0x00ff0000}} {
		epoch, number := x[0], x[1]
		a, c := boxOf(t, epoch, 4, 1), chain.New(sum(100+epoch), 4)
		if !a.Jump(number) || !c.Jump(1, number) {
			t.Fatal("jump")
		}
		once, err := c.Next(1)
		if err != nil {
			t.Fatal(err)
		}
		group := sum(1)
		context := binary.BigEndian.AppendUint32(group[:], uint32(epoch))
		context = binary.BigEndian.AppendUint32(append(context, 1), uint32(number))
		want, err := aead.Seal(once.Key, once.Nonce, context, text(9))
		if err != nil {
			t.Fatal(err)
		}
		p, err := a.Seal(text(9))
		if err != nil || p.Epoch != epoch || p.Number != number || !bytes.Equal(p.Sealed, want) {
			t.Error("seal", epoch, number, err)
		}
	}
}
