package link_test

import (
	"bytes"
	"encoding/binary"
	"errors"
	"math"
	"math/rand"
	"testing"

	"burrow/aead"
	"burrow/api"
	"burrow/link"
)

const last = 1<<32 - 1

func text(n int) []byte {
	b := make([]byte, n)
	rand.New(rand.NewSource(int64(n))).Read(b)
	return b
}

// model is a window by its definition.
type model struct {
	taken   map[int]int
	highest int
}

func none() *model { return &model{map[int]int{}, -1} }

func (m *model) check(n int) error {
	if n < 0 || n >= last {
		return api.ErrUsedUp
	}
	if m.highest >= 0 && n < m.highest-64 {
		return api.ErrOld
	}
	if m.taken[n] > 0 {
		return api.ErrReplay
	}
	return nil
}

func (m *model) mark(n int) {
	m.taken[n] = 1
	m.highest = max(m.highest, n)
}

// is tells whether an error is the one that is wanted, or both are none.
func is(err, want error) bool {
	if want == nil {
		return err == nil
	}
	return errors.Is(err, want)
}

// number is the next one to ask for: near the highest one, most of all.
func number(r *rand.Rand, highest int) int {
	switch r.Intn(8) {
	case 0:
		return r.Intn(200)
	case 1:
		return highest - 60 - r.Intn(8)
	case 2:
		return highest + 60 + r.Intn(80)
	case 3:
		return highest + r.Intn(3)
	case 4:
		return []int{-1, last - 1, last, last + 1, math.MinInt, math.MaxInt, 1 << 40}[r.Intn(7)]
	}
	return highest + 5 - r.Intn(72)
}

func TestWindow(t *testing.T) {
	r := rand.New(rand.NewSource(1))
	for round := range 60 {
		var w link.Window
		m := none()
		for range 200 {
			n := number(r, m.highest)
			if n == last-1 && r.Intn(10) > 0 {
				continue
			}
			want := m.check(n)
			if err := w.Check(n); !is(err, want) {
				t.Fatal("check", round, n, err, want)
			}
			if r.Intn(3) > 0 {
				if err := w.Mark(n); !is(err, want) {
					t.Fatal("mark", round, n, err, want)
				}
				if want == nil {
					m.mark(n)
				}
			}
			if w.Highest() != m.highest {
				t.Fatal("highest", w.Highest(), m.highest)
			}
		}
		for n := m.highest - 70; n < m.highest+5; n++ {
			if err := w.Check(n); !is(err, m.check(n)) {
				t.Fatal("in the end", round, n, err)
			}
		}
	}
}

func TestWindowSteps(t *testing.T) {
	for ahead := 1; ahead < 200; ahead++ { // 70 numbers, every second one left out, then one step of any size
		var w link.Window
		m := none()
		for n := 0; n < 140; n += 2 {
			if err := w.Mark(n); err != nil {
				t.Fatal(n, err)
			}
			m.mark(n)
		}
		if err := w.Mark(138 + ahead); err != nil {
			t.Fatal(ahead, err)
		}
		m.mark(138 + ahead)
		for n := range 400 {
			if err := w.Check(n); !is(err, m.check(n)) {
				t.Fatal("after", ahead, n, err)
			}
		}
	}
}

func TestEdgesOfTheWindow(t *testing.T) {
	var w link.Window
	if w.Highest() != -1 {
		t.Error("none")
	}
	for _, n := range []int{-1, math.MinInt, last, last + 1, math.MaxInt} {
		if err := w.Check(n); !errors.Is(err, api.ErrUsedUp) {
			t.Error("check", n, err)
		}
		if err := w.Mark(n); !errors.Is(err, api.ErrUsedUp) || w.Highest() != -1 {
			t.Error("mark", n, err)
		}
	}
	if err := w.Mark(last - 1); err != nil || w.Highest() != last-1 {
		t.Error("the last number", err)
	}
	for n, want := range map[int]error{last - 1: api.ErrReplay, last - 2: nil, last - 65: nil, last - 66: api.ErrOld, 0: api.ErrOld, last: api.ErrUsedUp} {
		if err := w.Check(n); !is(err, want) {
			t.Error(n, err)
		}
	}
	var first link.Window
	if err := first.Mark(0); err != nil || first.Highest() != 0 {
		t.Error("0", err)
	}
	if err := first.Check(0); !errors.Is(err, api.ErrReplay) {
		t.Error("0 again", err)
	}
}

// message is the message of a number, by its definition.
func message(key api.Key, n int, payload []byte) []byte {
	head := binary.BigEndian.AppendUint32(nil, uint32(n))
	sealed, err := aead.Seal(key, aead.Nonce(n), head, payload)
	if err != nil {
		panic(err)
	}
	return append(head, sealed...)
}

func TestExample(t *testing.T) {
	l := link.New(api.Key{1}, api.Key{2})
	for i, x := range []struct {
		n    int
		want error
	}{{0, nil}, {64, nil}, {0, api.ErrReplay}, {65, nil}, {0, api.ErrOld}} {
		got, err := l.Take(message(api.Key{2}, x.n, text(x.n)))
		if !is(err, x.want) || err == nil && !bytes.Equal(got, text(x.n)) || err != nil && got != nil {
			t.Error(i, err)
		}
	}
}

func TestSend(t *testing.T) {
	l := link.New(api.Key{1}, api.Key{2})
	for n := range 20 {
		if l.Next() != n || l.Highest() != -1 {
			t.Error("next", l.Next())
		}
		got, err := l.Send(text(n))
		if err != nil || !bytes.Equal(got, message(api.Key{1}, n, text(n))) {
			t.Error("send", n, err)
		}
	}
	for _, n := range []int{255, 256, 1 << 16, 1<<24 + 5, last - 1} {
		if !l.Jump(n) || l.Next() != n {
			t.Error("jump", n)
		}
		if got, err := l.Send(text(3)); err != nil || !bytes.Equal(got, message(api.Key{1}, n, text(3))) || l.Next() != n+1 {
			t.Error("send", n, err)
		}
	}
	for range 2 {
		if got, err := l.Send(nil); !errors.Is(err, api.ErrUsedUp) || got != nil || l.Next() != last {
			t.Error("used up", err)
		}
	}
	if _, err := l.Send(make([]byte, 1<<16+1)); !errors.Is(err, api.ErrLen) {
		t.Error("the length comes first", err)
	}
}

func TestJump(t *testing.T) {
	l := link.New(api.Key{1}, api.Key{2})
	for i, x := range []struct {
		n     int
		ok    bool
		after int
	}{
		{0, true, 0}, {-1, false, 0}, {math.MinInt, false, 0}, {last + 1, false, 0}, {math.MaxInt, false, 0}, {7, true, 7},
		{6, false, 7}, {7, true, 7}, {last, true, last}, {last + 1, false, last}, {last - 1, false, last}, {last, true, last},
	} {
		if l.Jump(x.n) != x.ok || l.Next() != x.after || l.Highest() != -1 {
			t.Error(i, l.Next())
		}
	}
}

func TestLengths(t *testing.T) {
	big := text(1<<16 + 1)
	l, r := link.New(api.Key{1}, api.Key{2}), link.New(api.Key{2}, api.Key{1})
	if got, err := l.Send(big); !errors.Is(err, api.ErrLen) || got != nil || l.Next() != 0 {
		t.Error("send", err)
	}
	most, err := l.Send(big[:1<<16])
	if err != nil || len(most) != 1<<16+20 {
		t.Fatal("the longest", err)
	}
	for _, b := range [][]byte{nil, make([]byte, 19), append(bytes.Clone(most), 0), make([]byte, 1<<17), bytes.Repeat([]byte{255}, 19)} {
		if got, err := r.Take(b); !errors.Is(err, api.ErrLen) || got != nil {
			t.Error("take", len(b), err)
		}
	}
	if got, err := r.Take(most); err != nil || !bytes.Equal(got, big[:1<<16]) {
		t.Error("the longest, taken", err)
	}
	least, err := l.Send(nil)
	if err != nil || len(least) != 20 {
		t.Error("the shortest", err)
	}
	if got, err := r.Take(least); err != nil || len(got) != 0 {
		t.Error("the shortest, taken", err)
	}
}

func TestTakeErrors(t *testing.T) {
	l := link.New(api.Key{1}, api.Key{2})
	refuse := func(b []byte, want error) {
		t.Helper()
		highest := l.Highest()
		if got, err := l.Take(b); !errors.Is(err, want) || got != nil || l.Highest() != highest {
			t.Error(want, err)
		}
	}
	used := message(api.Key{2}, last, text(3))
	refuse(used, api.ErrUsedUp)
	refuse(make([]byte, 20), api.ErrAuth)
	good := message(api.Key{2}, 100, text(30))
	for i := range good {
		bad := bytes.Clone(good)
		bad[i] ^= 1
		refuse(bad, api.ErrAuth)
	}
	refuse(message(api.Key{1}, 100, text(30)), api.ErrAuth)
	if _, err := l.Take(good); err != nil || l.Highest() != 100 {
		t.Error("after errors", err)
	}
	refuse(good, api.ErrReplay)
	bad := bytes.Clone(good)
	bad[10] ^= 1
	refuse(bad, api.ErrReplay)
	refuse(message(api.Key{2}, 35, nil), api.ErrOld)
	refuse(message(api.Key{1}, 35, nil), api.ErrOld)
	refuse(message(api.Key{1}, 36, nil), api.ErrAuth)
	refuse(used, api.ErrUsedUp)
	if _, err := l.Take(message(api.Key{2}, 36, nil)); err != nil || l.Highest() != 100 {
		t.Error("the lowest that is taken", err)
	}
	refuse(message(api.Key{2}, 36, nil), api.ErrReplay)
	if l.Next() != 0 {
		t.Error("what arrives doesn't count as sent")
	}
	if _, err := l.Take(message(api.Key{2}, last-1, nil)); err != nil || l.Highest() != last-1 {
		t.Error("the last number", err)
	}
}

func TestAnyOrder(t *testing.T) {
	r := rand.New(rand.NewSource(2))
	for range 20 {
		a, b := link.New(api.Key{1}, api.Key{2}), link.New(api.Key{2}, api.Key{1})
		m := none()
		var sent [][]byte
		for range 200 {
			for range r.Intn(4) {
				x, err := a.Send(text(len(sent)))
				if err != nil {
					t.Fatal(err)
				}
				sent = append(sent, x)
			}
			if len(sent) == 0 {
				continue
			}
			n := max(0, len(sent)-1-r.Intn(80))
			want := m.check(n)
			got, err := b.Take(sent[n])
			if !is(err, want) {
				t.Fatal("take", n, err, want)
			}
			if err == nil {
				m.mark(n)
				if !bytes.Equal(got, text(n)) {
					t.Fatal("payload", n)
				}
			}
			if b.Highest() != m.highest || a.Next() != len(sent) || b.Next() != 0 {
				t.Fatal("numbers")
			}
		}
	}
}

func TestNil(t *testing.T) {
	var l *link.Link
	var w *link.Window
	if l.Next() != 0 || l.Highest() != -1 || l.Jump(0) || l.Jump(5) || w.Highest() != -1 {
		t.Error("not what is asked for")
	}
	for i, f := range []func() ([]byte, error){
		func() ([]byte, error) { return l.Send(nil) },
		func() ([]byte, error) { return l.Send(make([]byte, 1<<17)) },
		func() ([]byte, error) { return l.Take(nil) },
		func() ([]byte, error) { return l.Take(make([]byte, 20)) },
		func() ([]byte, error) { return nil, w.Check(0) },
		func() ([]byte, error) { return nil, w.Mark(0) },
	} {
		if b, err := f(); !errors.Is(err, api.ErrUsedUp) || b != nil {
			t.Error(i, err)
		}
	}
}

func TestArgumentsStay(t *testing.T) {
	whole := text(100)
	kept := bytes.Clone(whole)
	a, b := link.New(api.Key{1}, api.Key{2}), link.New(api.Key{2}, api.Key{1})
	x, _ := a.Send(whole[:50])
	sent := append(bytes.Clone(x), text(40)...)
	keptSent := bytes.Clone(sent)
	if !bytes.Equal(whole, kept) {
		t.Error("an argument was changed")
	}
	clear(whole)
	if !bytes.Equal(x, keptSent[:len(x)]) {
		t.Error("the message shares with the payload")
	}
	got, err := b.Take(sent[:len(x)])
	if err != nil || !bytes.Equal(sent, keptSent) {
		t.Error("an argument was changed", err)
	}
	clear(sent)
	if !bytes.Equal(got, kept[:50]) {
		t.Error("the payload shares with the message")
	}
}
