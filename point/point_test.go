package point_test

import (
	"bytes"
	"crypto/ed25519"
	"crypto/sha512"
	"math/big"
	"math/rand"
	"slices"
	"testing"

	"burrow/api"
	"burrow/ladder"
	"burrow/point"
)

// pair is a point of big numbers, by the definition.
type pair struct {
	x, y *big.Int
}

func num(n int64) *big.Int { return big.NewInt(n) }

func prime() *big.Int {
	p := new(big.Int).Lsh(num(1), 255)
	return p.Sub(p, num(19))
}

func order() *big.Int {
	n, _ := new(big.Int).SetString("27742317777372353535851937790883648493", 10)
	return n.Add(n, new(big.Int).Lsh(num(1), 252))
}

func mod(n *big.Int) *big.Int { return n.Mod(n, prime()) }

func mul(list ...*big.Int) *big.Int {
	out := num(1)
	for _, n := range list {
		out = mod(out.Mul(out, n))
	}
	return out
}

func div(a, b *big.Int) *big.Int {
	return mul(a, new(big.Int).ModInverse(mod(new(big.Int).Set(b)), prime()))
}

func bend() *big.Int { return div(num(-121665), num(121666)) }

func (p pair) add(q pair, d *big.Int) pair {
	e := mul(d, p.x, q.x, p.y, q.y)
	x := new(big.Int).Add(mul(p.x, q.y), mul(q.x, p.y))
	y := new(big.Int).Add(mul(p.y, q.y), mul(p.x, q.x))
	return pair{div(x, new(big.Int).Add(num(1), e)), div(y, new(big.Int).Sub(num(1), e))}
}

func (p pair) times(n *big.Int, d *big.Int) pair {
	out := pair{num(0), num(1)}
	for i := n.BitLen() - 1; i >= 0; i-- {
		out = out.add(out, d)
		if n.Bit(i) == 1 {
			out = out.add(p, d)
		}
	}
	return out
}

func (p pair) bytes() api.Key {
	b := little(p.y, 32)
	b[31] |= byte(p.x.Bit(0)) << 7
	return api.Key(b)
}

// little is a number as bytes, the lowest first.
func little(n *big.Int, many int) []byte {
	b := n.FillBytes(make([]byte, many))
	slices.Reverse(b)
	return b
}

// value is the number of bytes.
func value(b []byte) *big.Int {
	b = slices.Clone(b)
	slices.Reverse(b)
	return new(big.Int).SetBytes(b)
}

// solve is the point with these bytes, by the definition.
func solve(b api.Key) (pair, bool) {
	odd := uint(b[31] >> 7)
	b[31] &= 127
	y := value(b[:])
	if y.Cmp(prime()) >= 0 {
		return pair{}, false
	}
	yy := mul(y, y)
	xx := div(new(big.Int).Sub(yy, num(1)), new(big.Int).Add(num(1), mul(bend(), yy)))
	x := new(big.Int).ModSqrt(xx, prime())
	if x == nil || x.Sign() == 0 && odd == 1 {
		return pair{}, false
	}
	if x.Bit(0) != odd {
		x = mod(x.Neg(x))
	}
	return pair{x, y}, true
}

// base is the point whose y is 4 by 5, and whose x is even.
func base() pair {
	p, _ := solve(api.Key(little(div(num(4), num(5)), 32)))
	return p
}

func random(seed int64, many int) []api.Key {
	r := rand.New(rand.NewSource(seed))
	out := make([]api.Key, many)
	for i := range out {
		r.Read(out[i][:])
	}
	return out
}

func full() api.Key { return api.Key(bytes.Repeat([]byte{255}, 32)) }

func TestBase(t *testing.T) {
	want := api.Key(append([]byte{0x58}, bytes.Repeat([]byte{0x66}, 31)...))
	if point.Base().Bytes() != want || base().bytes() != want {
		t.Errorf("%x", point.Base().Bytes())
	}
	if p, ok := point.From(want); !ok || !p.Equal(point.Base()) {
		t.Error("not the point of its bytes")
	}
}

// lists are points of all kinds, with what they are: multiples of the base, those of small order, and sums of both.
func lists() ([]point.Point, []pair) {
	points, pairs := []point.Point{{}}, []pair{{num(0), num(1)}}
	d := bend()
	for i, n := range append(random(1, 6), api.Key{1}, api.Key{2}, api.Key{3}, api.Key(little(new(big.Int).Sub(order(), num(1)), 32))) {
		points = append(points, point.Base().Times(n))
		pairs = append(pairs, base().times(value(n[:]), d))
		if i == 0 {
			points = append(points, points[1].Neg())
			pairs = append(pairs, pair{mod(new(big.Int).Neg(pairs[1].x)), pairs[1].y})
		}
	}
	for _, b := range small() {
		p, _ := point.From(b)
		q, _ := solve(b)
		points, pairs = append(points, p), append(pairs, q)
	}
	n := len(points)
	points, pairs = append(points, points[1].Add(points[n-1])), append(pairs, pairs[1].add(pairs[n-1], d))
	return points, pairs
}

// small are the bytes of the points whose multiple by 8 is neutral.
func small() []api.Key {
	var out []api.Key
	l, d := order(), bend()
	for i := int64(2); len(out) < 8; i++ {
		q, ok := solve(api.Key(little(num(i), 32)))
		if !ok {
			continue
		}
		each := q.times(l, d)
		out = nil
		for k := range int64(8) {
			if b := each.times(num(k), d).bytes(); !slices.Contains(out, b) {
				out = append(out, b)
			}
		}
	}
	return out
}

func TestSums(t *testing.T) {
	points, pairs := lists()
	d := bend()
	for i, p := range points {
		if p.Bytes() != pairs[i].bytes() {
			t.Fatal("bytes", i)
		}
		for k, q := range points {
			want := pairs[i].add(pairs[k], d).bytes()
			sum := p.Add(q)
			if sum.Bytes() != want {
				t.Error("sum", i, k)
			}
			if back, ok := point.From(want); !ok || !back.Equal(sum) {
				t.Error("sum from bytes", i, k)
			}
			if p.Equal(q) != (pairs[i].bytes() == pairs[k].bytes()) {
				t.Error("equal", i, k)
			}
		}
		neg := pair{mod(new(big.Int).Neg(pairs[i].x)), pairs[i].y}
		if p.Neg().Bytes() != neg.bytes() || !p.Add(p.Neg()).Equal(point.Point{}) || !p.Neg().Neg().Equal(p) {
			t.Error("neg", i)
		}
	}
}

func TestEqualNeedsBoth(t *testing.T) {
	p := point.Base()
	if p.Equal(p.Neg()) {
		t.Error("the same y")
	}
	two := api.Key(little(new(big.Int).Sub(prime(), num(1)), 32)) // 0, -1
	q, ok := point.From(two)
	if !ok || q.Equal(point.Point{}) || !q.Add(q).Equal(point.Point{}) {
		t.Error("the same x")
	}
}

func TestGroup(t *testing.T) {
	var list []point.Point
	for _, n := range random(2, 12) {
		list = append(list, point.Base().Times(n))
	}
	for i := range list {
		a, b, c := list[i], list[(i+1)%12], list[(i+5)%12]
		if !a.Add(b).Equal(b.Add(a)) || !a.Add(b).Add(c).Equal(a.Add(b.Add(c))) || !a.Add(point.Point{}).Equal(a) {
			t.Error("group", i)
		}
	}
}

func TestNeutral(t *testing.T) {
	var zero point.Point
	one := api.Key{1}
	if zero.Bytes() != one || !zero.Add(zero).Equal(zero) || !zero.Neg().Equal(zero) || !zero.Times(full()).Equal(zero) {
		t.Error("the zero value isn't neutral")
	}
	if p, ok := point.From(one); !ok || !p.Equal(zero) {
		t.Error("its bytes")
	}
	if !point.Base().Times(api.Key(little(order(), 32))).Equal(zero) {
		t.Error("L times the base")
	}
	if !point.Base().Times(api.Key{}).Equal(zero) {
		t.Error("0 times the base")
	}
}

func TestTimes(t *testing.T) {
	points, pairs := lists()
	d := bend()
	numbers := append(random(3, 2), full(), api.Key{31: 0x80}, api.Key{8}, api.Key{7}, api.Key(little(order(), 32)))
	for i, p := range points {
		for k, n := range numbers {
			if (i+k)%3 == 0 && p.Times(n).Bytes() != pairs[i].times(value(n[:]), d).bytes() {
				t.Error("times", i, k)
			}
		}
	}
	sum := point.Point{}
	for n := range 40 {
		if !point.Base().Times(api.Key{byte(n)}).Equal(sum) {
			t.Error("small multiple", n)
		}
		sum = sum.Add(point.Base())
	}
}

func TestPublicKeys(t *testing.T) {
	for i, seed := range random(4, 40) {
		h := sha512.Sum512(seed[:])
		want := ed25519.NewKeyFromSeed(seed[:]).Public().(ed25519.PublicKey)
		got := point.Base().Times(ladder.Clamp(api.Key(h[:32]))).Bytes()
		if !bytes.Equal(got[:], want) {
			t.Error(i)
		}
	}
}

func TestFrom(t *testing.T) {
	list := random(5, 120)
	for d := int64(-30); d < 60; d++ { // next to 0, and next to the prime
		n := num(d)
		if d < 0 {
			n.Add(n, prime())
		}
		list = append(list, api.Key(little(n, 32)))
	}
	for d := range int64(19) {
		list = append(list, api.Key(little(new(big.Int).Add(prime(), num(d)), 32)))
	}
	good, bad := 0, 0
	for i, b := range list {
		for range 2 {
			b[31] ^= 0x80
			want, ok := solve(b)
			got, is := point.From(b)
			if is != ok {
				t.Fatal("from", i, is)
			}
			if !ok {
				bad++
				if !got.Equal(point.Point{}) {
					t.Error("not neutral beside false", i)
				}
				continue
			}
			good++
			if got.Bytes() != b || want.bytes() != b {
				t.Error("bytes", i)
			}
		}
	}
	if good < 100 || bad < 100 {
		t.Error("too few of a kind", good, bad)
	}
}

func TestZeroXWithItsBit(t *testing.T) {
	for _, b := range []api.Key{{1}, api.Key(little(new(big.Int).Sub(prime(), num(1)), 32))} {
		if p, ok := point.From(b); !ok || p.Bytes() != b {
			t.Error("without the bit")
		}
		b[31] |= 0x80
		if p, ok := point.From(b); ok || !p.Equal(point.Point{}) {
			t.Error("with the bit")
		}
	}
}
