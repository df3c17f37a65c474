package field_test

import (
	"bytes"
	"math"
	"math/big"
	"math/rand"
	"slices"
	"testing"

	"burrow/api"
	"burrow/field"
)

// prime is 2^255 - 19.
func prime() *big.Int {
	p := new(big.Int).Lsh(big.NewInt(1), 255)
	return p.Sub(p, big.NewInt(19))
}

// key is a number below 2^256 as bytes, the lowest first.
func key(n *big.Int) api.Key {
	b := n.FillBytes(make([]byte, 32))
	slices.Reverse(b)
	return api.Key(b)
}

// value is what bytes stand for, all of their bits.
func value(b api.Key) *big.Int {
	c := slices.Clone(b[:])
	slices.Reverse(c)
	return new(big.Int).SetBytes(c)
}

// of is the number of a big one.
func of(n *big.Int) field.Num {
	return field.From(key(new(big.Int).Mod(n, prime())))
}

// same tells whether a number is the residue of a big one.
func same(a field.Num, n *big.Int) bool {
	return a.Bytes() == key(new(big.Int).Mod(n, prime()))
}

// keys are bytes near all kinds of edges, and random ones.
func keys() []api.Key {
	var out []api.Key
	for _, shift := range []uint{0, 64, 127, 128, 192, 254, 255} {
		top := new(big.Int).Lsh(big.NewInt(1), shift)
		for d := int64(-25); d <= 25; d += 1 + (d+25)%3 {
			if n := new(big.Int).Add(top, big.NewInt(d)); n.Sign() >= 0 {
				out = append(out, key(n))
			}
		}
	}
	p := prime()
	for d := int64(-3); d <= 20; d++ {
		out = append(out, key(new(big.Int).Add(p, big.NewInt(d))))
	}
	for d := int64(1); d <= 45; d += 4 {
		out = append(out, key(new(big.Int).Sub(new(big.Int).Lsh(big.NewInt(1), 256), big.NewInt(d))))
	}
	r := rand.New(rand.NewSource(1))
	for range 40 {
		var b api.Key
		r.Read(b[:])
		out = append(out, b)
	}
	return out
}

func TestFromAndBytes(t *testing.T) {
	low := new(big.Int).Lsh(big.NewInt(1), 255)
	for i, b := range keys() {
		n := new(big.Int).Mod(value(b), low)
		if !same(field.From(b), n) {
			t.Error("from", i, b)
		}
		if got := field.From(field.From(b).Bytes()); !got.Equal(field.From(b)) {
			t.Error("bytes", i)
		}
	}
	if (field.Num{}).Bytes() != (api.Key{}) || !(field.Num{}).Equal(field.From(api.Key{})) || (field.Num{}).Odd() {
		t.Error("the zero value")
	}
}

func TestSmall(t *testing.T) {
	for _, n := range []int{0, 1, 2, 9, 255, 256, 121666, 1 << 32, math.MaxInt, -1, -2, -19, -256, -1 << 32, math.MinInt, math.MinInt + 1} {
		if !same(field.Small(n), big.NewInt(int64(n))) {
			t.Error(n, field.Small(n).Bytes())
		}
	}
	want := api.Key(bytes.Repeat([]byte{0xff}, 32))
	want[0], want[31] = 0xec, 0x7f
	if field.Small(-1).Bytes() != want {
		t.Error("-1")
	}
}

func TestSumsAndProducts(t *testing.T) {
	all := keys()
	low := new(big.Int).Lsh(big.NewInt(1), 255)
	for i, a := range all {
		x, n := field.From(a), new(big.Int).Mod(value(a), low)
		for k, b := range all {
			y, m := field.From(b), new(big.Int).Mod(value(b), low)
			if !same(x.Add(y), new(big.Int).Add(n, m)) {
				t.Fatal("add", i, k)
			}
			if !same(x.Sub(y), new(big.Int).Sub(n, m)) {
				t.Fatal("sub", i, k)
			}
			if !same(x.Mul(y), new(big.Int).Mul(n, m)) {
				t.Fatal("mul", i, k)
			}
			equal := new(big.Int).Mod(n, prime()).Cmp(new(big.Int).Mod(m, prime())) == 0
			if x.Equal(y) != equal {
				t.Fatal("equal", i, k)
			}
		}
		if x.Odd() != (new(big.Int).Mod(n, prime()).Bit(0) == 1) {
			t.Error("odd", i)
		}
	}
}

func TestField(t *testing.T) {
	r := rand.New(rand.NewSource(2))
	next := func() field.Num {
		var b api.Key
		r.Read(b[:])
		return field.From(b)
	}
	zero, one := field.Small(0), field.Small(1)
	for range 200 {
		a, b, c := next(), next(), next()
		if !a.Add(b).Equal(b.Add(a)) || !a.Mul(b).Equal(b.Mul(a)) {
			t.Error("order")
		}
		if !a.Add(b).Add(c).Equal(a.Add(b.Add(c))) || !a.Mul(b).Mul(c).Equal(a.Mul(b.Mul(c))) {
			t.Error("brackets")
		}
		if !a.Mul(b.Add(c)).Equal(a.Mul(b).Add(a.Mul(c))) {
			t.Error("product of a sum")
		}
		if !a.Sub(b).Add(b).Equal(a) || !a.Sub(a).Equal(zero) || !a.Mul(one).Equal(a) || !a.Add(zero).Equal(a) {
			t.Error("what undoes")
		}
		if !a.Mul(a.Inv()).Equal(one) {
			t.Error("inverse")
		}
	}
}

func TestInv(t *testing.T) {
	if !(field.Num{}).Inv().Equal(field.Small(0)) {
		t.Error("inverse of 0")
	}
	for i, b := range keys() {
		n := new(big.Int).Mod(value(field.From(b).Bytes()), prime())
		if n.Sign() == 0 {
			continue
		}
		if !same(field.From(b).Inv(), n.ModInverse(n, prime())) {
			t.Error("inverse", i)
		}
	}
}

// bits are given numbers, one by one.
func bits(list ...int) func(yield func(int) bool) {
	return func(yield func(int) bool) {
		for _, b := range list {
			if !yield(b) {
				return
			}
		}
	}
}

func TestPower(t *testing.T) {
	for _, n := range []int64{0, 1, 2, 3, -1, 12345678} {
		a := field.Small(int(n))
		for e := range int64(40) {
			var list []int
			for k := 5; k >= 0; k-- {
				list = append(list, int(e>>k)&1)
			}
			want := new(big.Int).Exp(big.NewInt(n), big.NewInt(e), prime())
			if !same(a.Power(bits(list...)), want) {
				t.Error("power", n, e)
			}
		}
	}
	for i, b := range keys() {
		n := value(field.From(b).Bytes())
		e := keys()[(7*i+3)%len(keys())]
		if !same(field.From(b).Power(field.Bits(e)), new(big.Int).Exp(n, value(e), prime())) {
			t.Error("power", i)
		}
	}
}

func TestPowerOfOddBits(t *testing.T) {
	a := field.Small(3)
	if !a.Power(bits()).Equal(field.Small(1)) || !a.Power(nil).Equal(field.Small(1)) || !field.Small(0).Power(bits()).Equal(field.Small(1)) {
		t.Error("no bits")
	}
	for _, one := range []int{1, 2, 3, -1, 256, math.MinInt, 1 << 32} {
		if !a.Power(bits(one, 0, one)).Equal(field.Small(243)) {
			t.Error("a bit that counts as 1:", one)
		}
	}
}

func TestRoot(t *testing.T) {
	squares, others := 0, 0
	list := keys()
	for n := range 60 {
		list = append(list, field.Small(n).Bytes(), field.Small(-n).Bytes(), field.Small(n*n).Bytes())
	}
	for i, b := range list {
		a := field.From(b)
		r, ok := a.Root()
		is := new(big.Int).ModSqrt(value(a.Bytes()), prime()) != nil
		if ok != is {
			t.Fatal("root", i, ok)
		}
		if !ok {
			others++
			if !r.Equal(field.Num{}) {
				t.Error("a root beside false", i)
			}
			continue
		}
		squares++
		if r.Odd() || !r.Mul(r).Equal(a) {
			t.Error("not the even root", i)
		}
	}
	if squares < 50 || others < 50 {
		t.Error("too few of a kind", squares, others)
	}
	if r, ok := field.Small(0).Root(); !ok || !r.Equal(field.Num{}) {
		t.Error("root of 0")
	}
	if _, ok := field.Small(2).Root(); ok {
		t.Error("2 has no root")
	}
}

func TestBits(t *testing.T) {
	for i, b := range keys() {
		n := new(big.Int)
		many := 0
		for bit := range field.Bits(b) {
			if bit != 0 && bit != 1 {
				t.Fatal("bit", bit)
			}
			n.Lsh(n, 1).Add(n, big.NewInt(int64(bit)))
			many++
		}
		if many != 256 || n.Cmp(value(b)) != 0 {
			t.Error("bits", i, many)
		}
	}
	all := field.Bits(api.Key{31: 0xa0})
	for range 2 {
		var got []int
		for bit := range all {
			if got = append(got, bit); len(got) == 4 {
				break
			}
		}
		if !slices.Equal(got, []int{1, 0, 1, 0}) {
			t.Error("left early", got)
		}
	}
}
