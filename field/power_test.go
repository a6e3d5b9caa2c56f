package field_test

import (
	"bytes"
	"math/big"
	"math/rand"
	"testing"

	"imprimatur/api"
	"imprimatur/field"
)

// P4.3
func TestInv(t *testing.T) {
	half := new(big.Int).Rsh(plus(prime, big.NewInt(1)), 1)
	stands(t, "Inv", field.Inv(field.Small(2)), half, field.Small(2))
	for _, a := range some() {
		got := field.Inv(a)
		if x := number(a); x.Sign() == 0 {
			stands(t, "Inv", got, x, a)
		} else {
			stands(t, "Inv", got, new(big.Int).ModInverse(x, prime), a)
		}
	}
}

// P4.3
func TestPow(t *testing.T) {
	r := rand.New(rand.NewSource(7))
	l := some()
	for n := range 65 {
		for _, a := range []api.Elem{l[n], l[len(l)-1-n], {}, {1}, {2}, {low - 18, low, low, low, low}} {
			e := make([]byte, n)
			r.Read(e)
			for _, e := range [][]byte{e, bytes.Repeat([]byte{255}, n), make([]byte, n), append(bytes.Clone(e[:n/2]), make([]byte, n-n/2)...)} {
				got, err := field.Pow(a, e)
				if err != api.OK {
					t.Fatalf("Pow to %d bytes: error %d", n, err)
				}
				stands(t, "Pow", got, new(big.Int).Exp(number(a), numberOf(e), prime), a)
			}
		}
	}
	for n := range 256 {
		got, _ := field.Pow(field.Small(3), []byte{byte(n)})
		stands(t, "Pow", got, new(big.Int).Exp(big.NewInt(3), big.NewInt(int64(n)), prime), field.Small(3))
		got, _ = field.Pow(field.Small(3), []byte{0, byte(n)})
		stands(t, "Pow", got, new(big.Int).Exp(big.NewInt(3), big.NewInt(int64(256*n)), prime), field.Small(3))
	}
}

// P4.3
func TestPowToNothing(t *testing.T) {
	for _, a := range some() {
		for _, e := range [][]byte{nil, {}, {0}, make([]byte, 64)} {
			if got, err := field.Pow(a, e); err != api.OK || got != field.Small(1) {
				t.Fatalf("Pow of %x to 0: %x and error %d", a, got, err)
			}
		}
	}
}

// P4.3
func TestPowRefuses(t *testing.T) {
	for _, n := range []int{65, 66, 128, 1000} {
		for _, a := range []api.Elem{{}, {1}, {7, 7, 7, 7, 7}} {
			if got, e := field.Pow(a, make([]byte, n)); e != api.ErrArg || got != (api.Elem{}) {
				t.Errorf("Pow to %d bytes: %x and error %d", n, got, e)
			}
		}
	}
}

// rooted tells of a wrong answer of Root, reckoned by Jacobi's symbol.
func rooted(t *testing.T, u, v api.Elem) {
	t.Helper()
	x, y := number(u), number(v)
	r, ok := field.Root(u, v)
	want := big.Jacobi(times(x, y), prime) != -1 // u over v is a square just where u v is one
	if y.Sign() == 0 {
		want = x.Sign() == 0
	}
	if ok != want {
		t.Fatalf("Root of %x over %x: %v", u, v, ok)
	}
	if !ok {
		if r != (api.Elem{}) {
			t.Fatalf("no root of %x over %x, but %x", u, v, r)
		}
		return
	}
	n := number(r)
	square := times(times(n, n), y)
	if r != small(n) || n.Bit(0) != 0 || square.Mod(square, prime).Cmp(x) != 0 {
		t.Fatalf("Root of %x over %x: %x", u, v, r)
	}
	if x.Sign() == 0 && n.Sign() != 0 {
		t.Fatalf("Root of 0 over %x: %x", v, r)
	}
}

// P4.4
func TestRoot(t *testing.T) {
	if r, ok := field.Root(field.Small(4), field.Small(1)); !ok || r != field.Small(2) {
		t.Errorf("Root of 4 over 1: %x and %v", r, ok)
	}
	if r, ok := field.Root(field.Small(1), field.Small(1)); !ok || r != field.Neg(field.Small(1)) {
		t.Errorf("Root of 1 over 1: %x and %v", r, ok)
	}
	if r, ok := field.Root(field.Small(2), field.Small(1)); ok || r != (api.Elem{}) {
		t.Errorf("Root of 2 over 1: %x and %v", r, ok)
	}
	if r, ok := field.Root(field.Neg(field.Small(1)), field.Small(1)); !ok || field.Square(r) != field.Neg(field.Small(1)) || field.Odd(r) {
		t.Errorf("Root of p - 1 over 1: %x and %v", r, ok)
	}
	for u := range uint64(30) {
		for v := range uint64(30) {
			rooted(t, field.Small(u), field.Small(v))
			rooted(t, field.Neg(field.Small(u)), field.Small(v))
		}
	}
	l := some()
	for i, u := range l {
		for k := range 4 {
			rooted(t, u, l[(i*13+k*17+5)%len(l)])
		}
		rooted(t, u, u)
	}
}

// P4.4
func TestRootOverZero(t *testing.T) {
	zeros := []api.Elem{{}, {low - 18, low, low, low, low}, {2 * (low - 18), 2 * low, 2 * low, 2 * low, 2 * low}}
	for _, v := range zeros {
		for _, u := range zeros {
			if r, ok := field.Root(u, v); !ok || r != (api.Elem{}) {
				t.Errorf("Root of 0 over 0: %x and %v", r, ok)
			}
		}
		for _, u := range some() {
			rooted(t, u, v)
			rooted(t, v, u)
		}
	}
}
