package ed_test

import (
	"bytes"
	"math/big"
	"math/rand"
	"slices"
	"sync"
	"testing"

	"imprimatur/api"
)

// low is the greatest limb of a small element.
const low = 1<<51 - 1

var (
	prime = new(big.Int).Sub(power2(255), big.NewInt(19))
	order = new(big.Int).Add(power2(252), decimal("27742317777372353535851937790883648493"))
	curve = over(big.NewInt(-121665), big.NewInt(121666)) // d
)

func decimal(s string) *big.Int {
	x, _ := new(big.Int).SetString(s, 10)
	return x
}

func power2(n uint) *big.Int {
	return new(big.Int).Lsh(big.NewInt(1), n)
}

// Sums, differences, products and quotients modulo the prime.
func plus(x, y *big.Int) *big.Int  { return new(big.Int).Mod(new(big.Int).Add(x, y), prime) }
func minus(x, y *big.Int) *big.Int { return new(big.Int).Mod(new(big.Int).Sub(x, y), prime) }
func times(x, y *big.Int) *big.Int { return new(big.Int).Mod(new(big.Int).Mul(x, y), prime) }
func over(x, y *big.Int) *big.Int  { return times(x, new(big.Int).ModInverse(y, prime)) }

// pair is a point, as the document tells it.
type pair struct {
	x, y *big.Int
}

func zero() pair {
	return pair{big.NewInt(0), big.NewInt(1)}
}

// base is the base.
func base() pair {
	y := over(big.NewInt(4), big.NewInt(5))
	p, _ := pairOf(y, false)
	return p
}

// pairOf is the point with that y and an x that is odd or not; x is 0 where it is the one or the other.
func pairOf(y *big.Int, odd bool) (pair, bool) {
	one, y2 := big.NewInt(1), times(y, y)
	x := new(big.Int).ModSqrt(over(minus(y2, one), plus(times(curve, y2), one)), prime)
	if x == nil {
		return pair{}, false
	}
	if (x.Bit(0) == 1) != odd {
		x = minus(new(big.Int), x)
	}
	return pair{x, y}, true
}

// added is a sum, as the document tells it.
func added(p, q pair) pair {
	one := big.NewInt(1)
	t := times(curve, times(times(p.x, q.x), times(p.y, q.y)))
	return pair{
		over(plus(times(p.x, q.y), times(p.y, q.x)), plus(one, t)),
		over(plus(times(p.y, q.y), times(p.x, q.x)), minus(one, t)),
	}
}

// often is a point so many times: doubled and added up.
func often(n *big.Int, p pair) pair {
	r := zero()
	for i := n.BitLen() - 1; i >= 0; i-- {
		r = added(r, r)
		if n.Bit(i) == 1 {
			r = added(r, p)
		}
	}
	return r
}

func other(p pair) pair {
	return pair{minus(new(big.Int), p.x), p.y}
}

func (p pair) is(q pair) bool {
	return p.x.Cmp(q.x) == 0 && p.y.Cmp(q.y) == 0
}

// littleOf is a number in n bytes, the least one first.
func littleOf(x *big.Int, n int) []byte {
	b := x.FillBytes(make([]byte, n))
	slices.Reverse(b)
	return b
}

// numberOf is the number of bytes, the least one first.
func numberOf(b []byte) *big.Int {
	b = slices.Clone(b)
	slices.Reverse(b)
	return new(big.Int).SetBytes(b)
}

// bytesOf is a point's bytes.
func bytesOf(p pair) []byte {
	b := littleOf(p.y, 32)
	b[31] |= byte(p.x.Bit(0)) << 7
	return b
}

// small is the small element of a number.
func small(x *big.Int) api.Elem {
	a := api.Elem{}
	for i := range a {
		a[i] = new(big.Int).Rsh(x, uint(51*i)).Uint64() & low
	}
	return a
}

// heavy is the element of a number, with k times the prime's limbs on top.
func heavy(x *big.Int, k uint64) api.Elem {
	a := small(x)
	a[0] += k * (low - 18)
	for i := range 4 {
		a[i+1] += k * low
	}
	return a
}

// number is what an element stands for.
func number(a api.Elem) *big.Int {
	x := new(big.Int)
	for i, l := range a {
		x.Add(x, new(big.Int).Lsh(new(big.Int).SetUint64(l), uint(51*i)))
	}
	return x.Mod(x, prime)
}

// held is a held one of a point with a Z; its elements are small, or heavy by k.
func held(p pair, z *big.Int, k uint64) api.Point {
	return api.Point{X: heavy(times(p.x, z), k), Y: heavy(times(p.y, z), k), Z: heavy(z, k), T: heavy(times(times(p.x, p.y), z), k)}
}

// holds tells of an answer that is not a held one of a point.
func holds(t *testing.T, what string, got api.Point, want pair, of ...any) {
	t.Helper()
	z := number(got.Z)
	if z.Sign() == 0 {
		t.Fatalf("%s of %v: %x, with 0 as Z", what, of, got)
	}
	x, y, xy := over(number(got.X), z), over(number(got.Y), z), over(number(got.T), z)
	if !want.is(pair{x, y}) || xy.Cmp(times(x, y)) != 0 {
		t.Fatalf("%s of %v: x %v, y %v, x y %v, not x %v, y %v", what, of, x, y, xy, want.x, want.y)
	}
}

// hold is some held ones of a point.
func hold(p pair) []api.Point {
	return []api.Point{
		held(p, big.NewInt(1), 0),
		held(p, minus(new(big.Int), big.NewInt(1)), 0),
		held(p, decimal("1234567890123456789012345678901234567890"), 0),
		held(p, big.NewInt(1), 1),
		held(p, over(big.NewInt(1), big.NewInt(3)), 8191),
	}
}

// twisted are the eight points that come to zero eight times: the first one is zero, each further one the one ahead of it and one more.
func twisted() []pair {
	for y := int64(2); ; y++ {
		p, ok := pairOf(big.NewInt(y), false)
		if !ok {
			continue
		}
		if p = often(order, p); often(big.NewInt(4), p).is(zero()) {
			continue
		}
		l := []pair{zero()}
		for i := range 7 {
			l = append(l, added(l[i], p))
		}
		return l
	}
}

// some are points: zero, those of small order, the base and others a few times, and beside those of small order, and some of chance.
var some = sync.OnceValue(func() []pair {
	l := twisted()
	b := base()
	for _, n := range []*big.Int{big.NewInt(1), big.NewInt(2), big.NewInt(3), big.NewInt(16), power2(128), new(big.Int).Sub(order, big.NewInt(1))} {
		l = append(l, often(n, b))
	}
	l = append(l, added(b, l[1]), added(b, l[4]), added(often(big.NewInt(7), b), l[6]))
	r := rand.New(rand.NewSource(5))
	for len(l) < 40 {
		if p, ok := pairOf(new(big.Int).Rand(r, prime), r.Intn(2) == 1); ok {
			l = append(l, p, other(p))
		}
	}
	return l
})

// numbers are numbers of bytes: few and many ones, the ends of halves, those about the order and its multiples, and some of chance.
func numbers() [][]byte {
	l := [][]byte{nil, {}, {0}, {1}, {2}, {15}, {16}, {17}, {240}, {255}, {0, 1}, {255, 255}, {1, 0, 0}, make([]byte, 32), bytes.Repeat([]byte{255}, 32)}
	for _, k := range []int64{1, 2, 8, 15} {
		m := new(big.Int).Mul(order, big.NewInt(k))
		for d := range int64(3) {
			l = append(l, littleOf(new(big.Int).Add(m, big.NewInt(d-1)), 32))
		}
	}
	for _, n := range []uint{8, 64, 128, 251, 252, 255} {
		l = append(l, littleOf(power2(n), 32))
	}
	r := rand.New(rand.NewSource(6))
	for _, n := range []int{3, 8, 16, 31, 32, 32, 32, 32} {
		b := make([]byte, n)
		r.Read(b)
		l = append(l, b)
	}
	return l
}

// isZero tells whether a point is the zero value, as beside an error.
func isZero(p api.Point) bool {
	return p == api.Point{}
}
