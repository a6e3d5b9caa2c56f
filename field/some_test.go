package field_test

import (
	"math"
	"math/big"
	"math/rand"
	"slices"
	"testing"

	"imprimatur/api"
	"imprimatur/field"
)

// low is the greatest limb of a small element.
const low = 1<<51 - 1

var (
	prime = less(power2(255), 19)
	order = new(big.Int).Add(power2(252), decimal("27742317777372353535851937790883648493"))
)

func decimal(s string) *big.Int {
	x, _ := new(big.Int).SetString(s, 10)
	return x
}

func power2(n uint) *big.Int {
	return new(big.Int).Lsh(big.NewInt(1), n)
}

func less(x *big.Int, n int64) *big.Int {
	return new(big.Int).Sub(x, big.NewInt(n))
}

// Sums, differences and products without bounds.
func plus(x, y *big.Int) *big.Int  { return new(big.Int).Add(x, y) }
func minus(x, y *big.Int) *big.Int { return new(big.Int).Sub(x, y) }
func times(x, y *big.Int) *big.Int { return new(big.Int).Mul(x, y) }

// number is what an element stands for, from 0 to p - 1: each limb of its whole worth.
func number(a api.Elem) *big.Int {
	x := new(big.Int)
	for i, l := range a {
		x.Add(x, new(big.Int).Lsh(new(big.Int).SetUint64(l), uint(51*i)))
	}
	return x.Mod(x, prime)
}

// small is the small element of a number.
func small(x *big.Int) api.Elem {
	x = new(big.Int).Mod(x, prime)
	a := api.Elem{}
	for i := range a {
		a[i] = new(big.Int).Rsh(x, uint(51*i)).Uint64() & low
	}
	return a
}

// littleOf is a number in n bytes, the least one first.
func littleOf(x *big.Int, n int) []byte {
	b := x.FillBytes(make([]byte, n))
	slices.Reverse(b)
	return b
}

// numberOf is the number of bytes, the least one first.
func numberOf(b []byte) *big.Int {
	b = slices.Clone(b)
	slices.Reverse(b)
	return new(big.Int).SetBytes(b)
}

// edges are elements about which limbs, the prime and its multiples end.
func edges() []api.Elem {
	const most = math.MaxUint64
	l := []api.Elem{
		{}, {1}, {2}, {18}, {19}, {20}, {most}, {low}, {low + 1},
		{most, most, most, most, most}, {low, low, low, low, low},
		{low + 1, low, low, low, low}, {low + 1, low + 1, low + 1, low + 1, low + 1},
		{most, low, low, low, low}, {0, 0, 0, 0, 1 << 51}, {0, 0, 0, 0, 1<<51 - 1},
		{low - 18, low, low, low, 2*low + 1}, {low - 18, low, low, low, most},
		{2 * (low - 18), 2 * low, 2 * low, 2 * low, 2 * low}, // twice the prime
		{8191 * (low - 18), 8191 * low, 8191 * low, 8191 * low, 8191 * low},
		{8192 * (low - 18), 8192 * low, 8192 * low, 8192 * low, 8192 * low},
		{8192*(low-18) + 8191, 8192 * low, 8192 * low, 8192 * low, 8192 * low},
	}
	for n := range uint64(40) { // about the prime, and up to 2^255 and above
		l = append(l, api.Elem{low - 30 + n, low, low, low, low}, api.Elem{n, 0, 0, 0, 1 << 51}, api.Elem{low - 30 + n, low, low, low, low - 1})
	}
	for i := range 5 {
		for _, x := range []uint64{1, low - 18, low, low + 1, 1 << 52, 1 << 63, most - 1, most} {
			a, b := api.Elem{}, api.Elem{low, low, low, low, low}
			a[i], b[i] = x, x
			l = append(l, a, b, field.Reduce(a))
		}
	}
	return l
}

// some are the edges, and elements of chance, the same ones each time.
func some() []api.Elem {
	r := rand.New(rand.NewSource(4))
	l := edges()
	for n := range 300 {
		a := api.Elem{}
		for i := range a {
			a[i] = r.Uint64() >> (r.Intn(2) * r.Intn(64))
			if n%2 == 0 {
				a[i] &= low
			}
		}
		l = append(l, a)
	}
	return l
}

// pairs are elements of some, each beside others.
func pairs() [][2]api.Elem {
	l := some()
	e := edges()
	var all [][2]api.Elem
	for _, a := range e {
		for _, b := range e {
			all = append(all, [2]api.Elem{a, b})
		}
	}
	for i, a := range l {
		for k := range 20 {
			all = append(all, [2]api.Elem{a, l[(i*31+k*7+1)%len(l)]})
		}
		all = append(all, [2]api.Elem{a, a})
	}
	return all
}

// stands tells of an answer that is not the small element of a number.
func stands(t *testing.T, what string, got api.Elem, want *big.Int, of ...api.Elem) {
	t.Helper()
	if got != small(want) {
		t.Fatalf("%s of %x: %x, not %x", what, of, got, small(want))
	}
}

// numbers are numbers of at most n bytes: about multiples of L moved up, the ends, and some of chance.
func numbers(n int) []*big.Int {
	end := power2(uint(8 * n))
	var all []*big.Int
	about := func(x *big.Int) {
		for d := range int64(7) {
			if y := less(x, d-3); y.Sign() >= 0 && y.Cmp(end) < 0 {
				all = append(all, y)
			}
		}
	}
	about(new(big.Int))
	about(end)
	for up := uint(0); up <= uint(8*n); up += 8 {
		about(power2(up))
		for _, k := range []int64{1, 2, 3, 15, 16, 255, 1 << 32, 1<<62 - 1} {
			about(new(big.Int).Lsh(times(order, big.NewInt(k)), up))
		}
		about(new(big.Int).Lsh(less(order, 1), up))
		about(new(big.Int).Lsh(plus(power2(252), big.NewInt(5)), up))
	}
	about(times(order, new(big.Int).Div(end, order)))
	r := rand.New(rand.NewSource(int64(n)))
	for range 400 {
		all = append(all, new(big.Int).Rand(r, power2(uint(r.Intn(8*n+1)))))
	}
	return all
}
