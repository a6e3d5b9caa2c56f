package field_test

import (
	"bytes"
	"math/big"
	"math/rand"
	"testing"

	"imprimatur/api"
	"imprimatur/field"
)

// mod is a number modulo L, in 32 bytes.
func mod(x *big.Int) []byte {
	return littleOf(new(big.Int).Mod(x, order), 32)
}

// P4.5
func TestScalar(t *testing.T) {
	for _, x := range []*big.Int{big.NewInt(0), big.NewInt(1), less(order, 1), less(order, 2), power2(252), less(power2(252), 1), power2(64), power2(128)} {
		if e := field.Scalar(littleOf(x, 32)); e != api.OK {
			t.Errorf("Scalar of %v: error %d", x, e)
		}
	}
	for _, x := range []*big.Int{order, less(order, -1), plus(order, order), plus(order, power2(64)), plus(order, power2(128)), power2(253), power2(255), less(power2(256), 1), prime} {
		if e := field.Scalar(littleOf(x, 32)); e != api.ErrScalar {
			t.Errorf("Scalar of %v: error %d", x, e)
		}
	}
	for _, n := range []int{0, 1, 31, 33, 64, 1000} {
		for _, y := range []byte{0, 1, 255} {
			if e := field.Scalar(bytes.Repeat([]byte{y}, n)); e != api.ErrArg {
				t.Errorf("Scalar of %d bytes %d: error %d", n, y, e)
			}
		}
	}
	for _, x := range numbers(32) {
		want := api.OK
		if x.Cmp(order) >= 0 {
			want = api.ErrScalar
		}
		if e := field.Scalar(littleOf(x, 32)); e != want {
			t.Fatalf("Scalar of %v: error %d", x, e)
		}
	}
}

// P4.5
func TestFold(t *testing.T) {
	for n := range 65 {
		for _, x := range numbers(n) {
			if b, e := field.Fold(littleOf(x, n)); e != api.OK || !bytes.Equal(b, mod(x)) {
				t.Fatalf("Fold of %v: %v and error %d", x, b, e)
			}
		}
	}
	if b, e := field.Fold(nil); e != api.OK || !bytes.Equal(b, make([]byte, 32)) {
		t.Errorf("Fold of none: %v and error %d", b, e)
	}
	for _, n := range []int{65, 66, 128, 1000} {
		if b, e := field.Fold(make([]byte, n)); e != api.ErrArg || len(b) != 0 {
			t.Errorf("Fold of %d bytes: %v and error %d", n, b, e)
		}
	}
}

// timesHolds tells of a wrong answer of Times.
func timesHolds(t *testing.T, a, b, c []byte) {
	t.Helper()
	want := mod(plus(times(numberOf(a), numberOf(b)), numberOf(c)))
	if got, e := field.Times(a, b, c); e != api.OK || !bytes.Equal(got, want) {
		t.Fatalf("Times(%v, %v, %v): %v and error %d, not %v", a, b, c, got, e, want)
	}
}

// P4.5
func TestTimes(t *testing.T) {
	timesHolds(t, []byte{6}, []byte{7}, []byte{8})
	timesHolds(t, nil, nil, nil)
	r := rand.New(rand.NewSource(8))
	for a := range 33 {
		for b := range 33 {
			x, y, z := make([]byte, a), make([]byte, b), make([]byte, r.Intn(33))
			for _, l := range [][]byte{x, y, z} {
				r.Read(l)
			}
			timesHolds(t, x, y, z)
		}
	}
	l := numbers(32)
	ends := []*big.Int{big.NewInt(0), big.NewInt(1), less(power2(256), 1), order, less(order, 1), power2(255), less(power2(64), 1), less(power2(128), 1)}
	for _, x := range ends {
		for _, y := range ends {
			for _, z := range append(ends, l[r.Intn(len(l))]) {
				timesHolds(t, littleOf(x, 32), littleOf(y, 32), littleOf(z, 32))
			}
		}
	}
	for i, x := range l {
		timesHolds(t, littleOf(x, 32), littleOf(l[(i*7+3)%len(l)], 32), littleOf(l[(i*11+5)%len(l)], 32))
	}
}

// P4.5
func TestTimesRefuses(t *testing.T) {
	for _, n := range []int{33, 34, 64, 1000} {
		for at := range 3 {
			l := [3][]byte{{1}, {2}, {3}}
			l[at] = make([]byte, n)
			if b, e := field.Times(l[0], l[1], l[2]); e != api.ErrArg || len(b) != 0 {
				t.Errorf("Times with %d bytes at %d: %v and error %d", n, at, b, e)
			}
		}
	}
}
