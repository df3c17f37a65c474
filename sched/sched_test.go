package sched_test

import (
	"bytes"
	"crypto/hkdf"
	"crypto/hmac"
	"crypto/sha256"
	"encoding/binary"
	"math"
	"math/rand"
	"testing"

	"burrow/api"
	"burrow/sched"
)

func text(n int) []byte {
	b := make([]byte, n)
	rand.New(rand.NewSource(int64(n))).Read(b)
	return b
}

func sum(n int) api.Sum { return api.Sum(text(1000 + n)[:32]) }

// labelled is a labelled secret by the standard library.
func labelled(secret api.Sum, label string, context []byte) api.Sum {
	if len(context) > 1<<16 {
		return api.Sum{}
	}
	info := append([]byte{0, 32, byte(len(label))}, label...)
	info = binary.BigEndian.AppendUint32(info, uint32(len(context)))
	b, err := hkdf.Expand(sha256.New, secret[:], string(append(info, context...)), 32)
	if err != nil {
		panic(err)
	}
	return api.Sum(b)
}

// joined is the secrets of a joiner secret, by the definition.
func joined(joiner api.Sum, context []byte) api.Secrets {
	epoch := labelled(joiner, "epoch", context)
	return api.Secrets{
		Joiner: joiner, Welcome: labelled(joiner, "welcome", nil), Epoch: epoch,
		Confirm: labelled(epoch, "confirm", nil), Packets: labelled(epoch, "packets", nil),
		Export: labelled(epoch, "export", nil), Init: labelled(epoch, "init", nil),
	}
}

func next(init, commit api.Sum, context []byte) api.Secrets {
	s, err := hkdf.Extract(sha256.New, commit[:], init[:])
	if err != nil {
		panic(err)
	}
	return joined(labelled(api.Sum(s), "joiner", context), context)
}

func TestContext(t *testing.T) {
	for _, epoch := range []int{0, 1, 255, 256, 1 << 16, 1<<32 - 1, 1 << 32, 1<<32 + 5, -1, math.MinInt, math.MaxInt, 0x0102030405} {
		group, tree, confirmed := sum(1), sum(2), sum(3)
		want := bytes.Clone(group[:])
		want = binary.BigEndian.AppendUint32(want, uint32(epoch))
		want = append(want, tree[:]...)
		want = append(want, confirmed[:]...)
		if got := sched.Context(group, epoch, tree, confirmed); !bytes.Equal(got, want) || len(got) != 100 {
			t.Error(epoch)
		}
	}
}

func TestSecrets(t *testing.T) {
	for i, n := range []int{0, 1, 99, 100, 101, 1000, 1<<16 - 1, 1 << 16, 1<<16 + 1, 1 << 17} {
		init, commit, context := sum(i), sum(i+20), text(n)
		got := sched.Next(init, commit, context)
		if got != next(init, commit, context) {
			t.Error("next", n)
		}
		if sched.Joined(sum(i), context) != joined(sum(i), context) {
			t.Error("joined", n)
		}
		if sched.Joined(got.Joiner, context) != got {
			t.Error("who joins has other secrets", n)
		}
	}
	if sched.Next(sum(1), sum(2), nil) == sched.Next(sum(2), sum(1), nil) {
		t.Error("the order counts")
	}
}

func TestLongContext(t *testing.T) {
	long := text(1<<16 + 1)
	s := sched.Next(sum(1), sum(2), long)
	if s.Joiner != (api.Sum{}) || s.Epoch != (api.Sum{}) || s.Welcome != labelled(api.Sum{}, "welcome", nil) || s.Init != labelled(api.Sum{}, "init", nil) {
		t.Error("next")
	}
	s = sched.Joined(sum(1), long)
	if s.Joiner != sum(1) || s.Epoch != (api.Sum{}) || s.Welcome != labelled(sum(1), "welcome", nil) || s.Packets != labelled(api.Sum{}, "packets", nil) {
		t.Error("joined")
	}
}

func TestSecretsDiffer(t *testing.T) {
	s := sched.Next(sum(1), sum(2), text(100))
	seen := map[api.Sum]int{}
	for i, x := range []api.Sum{s.Joiner, s.Welcome, s.Epoch, s.Confirm, s.Packets, s.Export, s.Init, {}} {
		if _, ok := seen[x]; ok {
			t.Error("the same twice", i)
		}
		seen[x] = i
	}
}

func TestTag(t *testing.T) {
	for i := range 10 {
		s, confirmed := sched.Joined(sum(i), text(i)), sum(i+30)
		h := hmac.New(sha256.New, s.Confirm[:])
		h.Write(confirmed[:])
		if sched.Tag(s, confirmed) != api.Sum(h.Sum(nil)) {
			t.Error("tag", i)
		}
		if sched.Tag(api.Secrets{Confirm: s.Confirm}, confirmed) != sched.Tag(s, confirmed) {
			t.Error("only one secret counts", i)
		}
	}
}

func TestTranscripts(t *testing.T) {
	for _, n := range []int{0, 1, 63, 64, 500, 1 << 16} {
		interim, sig := sum(n), api.Wide(text(2000 + n)[:64])
		all := append([]byte{1}, interim[:]...)
		all = append(all, text(n)...)
		all = append(all, sig[:]...)
		if sched.Confirmed(interim, text(n), sig) != sha256.Sum256(all) {
			t.Error("confirmed", n)
		}
		tag := sum(n + 1)
		all = append([]byte{2}, interim[:]...)
		if sched.Interim(interim, tag) != sha256.Sum256(append(all, tag[:]...)) {
			t.Error("interim", n)
		}
	}
}

func TestArgumentsStay(t *testing.T) {
	whole := text(200)
	kept := bytes.Clone(whole)
	sched.Next(sum(1), sum(2), whole[:100])
	sched.Joined(sum(1), whole[:100])
	sched.Confirmed(sum(1), whole[:100], api.Wide{})
	if !bytes.Equal(whole, kept) {
		t.Error("an argument was changed")
	}
	one := sched.Context(sum(1), 2, sum(3), sum(4))
	want := bytes.Clone(one)
	clear(one)
	if !bytes.Equal(sched.Context(sum(1), 2, sum(3), sum(4)), want) {
		t.Error("results share")
	}
}
