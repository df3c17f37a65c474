package point_test

import (
	"bytes"
	"math/big"
	"math/rand"
	"testing"

	"burrow/api"
	"burrow/point"
)

// reduced is a residue by big numbers.
func reduced(n *big.Int) api.Key {
	return api.Key(little(new(big.Int).Mod(n, order()), 32))
}

func TestReduce(t *testing.T) {
	r := rand.New(rand.NewSource(1))
	for n := range 65 {
		for range 4 {
			b := make([]byte, n)
			r.Read(b)
			if got, ok := point.Reduce(b); !ok || got != reduced(value(b)) {
				t.Error("reduce", n)
			}
		}
		b := bytes.Repeat([]byte{255}, n)
		if got, ok := point.Reduce(b); !ok || got != reduced(value(b)) {
			t.Error("reduce full", n)
		}
	}
	for k := range int64(17) {
		for d := int64(-2); d <= 2; d++ {
			n := new(big.Int).Mul(order(), num(k))
			if n.Add(n, num(d)).Sign() < 0 {
				continue
			}
			if got, ok := point.Reduce(little(n, 64)); !ok || got != reduced(n) {
				t.Error("reduce", k, d)
			}
		}
	}
	for _, n := range []int{65, 66, 128, 1000} {
		if got, ok := point.Reduce(make([]byte, n)); ok || got != (api.Key{}) {
			t.Error("too long", n)
		}
		if got, ok := point.Reduce(bytes.Repeat([]byte{1}, n)); ok || got != (api.Key{}) {
			t.Error("too long", n)
		}
	}
	if got, ok := point.Reduce(nil); !ok || got != (api.Key{}) {
		t.Error("no bytes")
	}
}

// scalars are numbers next to multiples of the order, and others.
func scalars() []api.Key {
	out := append(random(6, 12), api.Key{}, api.Key{1}, full(), api.Key{31: 0x10})
	for k := int64(1); k <= 15; k += 7 {
		for d := int64(-1); d <= 1; d++ {
			n := new(big.Int).Mul(order(), num(k))
			out = append(out, api.Key(little(n.Add(n, num(d)), 32)))
		}
	}
	return out
}

func TestMulAdd(t *testing.T) {
	all := scalars()
	for i, a := range all {
		for k, b := range all {
			c := all[(i+3*k+1)%len(all)]
			n := new(big.Int).Mul(value(a[:]), value(b[:]))
			n.Add(n, value(c[:]))
			if point.MulAdd(a, b, c) != reduced(n) {
				t.Error("mul add", i, k)
			}
		}
	}
}

func TestResidue(t *testing.T) {
	for i, b := range append(scalars(), random(7, 50)...) {
		if point.Residue(b) != (value(b[:]).Cmp(order()) < 0) {
			t.Error("residue", i)
		}
	}
	for shift := range uint(256) {
		n := new(big.Int).Lsh(num(1), shift)
		if point.Residue(api.Key(little(n, 32))) != (shift <= 252) {
			t.Error("bit", shift)
		}
	}
}

func TestArgumentsStay(t *testing.T) {
	b := bytes.Repeat([]byte{255}, 80)
	point.Reduce(b[:40])
	point.Reduce(b)
	if !bytes.Equal(b, bytes.Repeat([]byte{255}, 80)) {
		t.Error("an argument was changed")
	}
}
