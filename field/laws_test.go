package field_test

import (
	"bytes"
	"math/rand"
	"testing"

	"imprimatur/api"
	"imprimatur/field"
)

// P4.6
func TestElementsAreAField(t *testing.T) {
	l := some()
	zero, one := api.Elem{}, field.Small(1)
	for i, a := range l {
		b, c := l[(i*7+3)%len(l)], l[(i*11+5)%len(l)]
		if field.Add(a, b) != field.Add(b, a) || field.Mul(a, b) != field.Mul(b, a) {
			t.Fatalf("order plays a part: %x, %x", a, b)
		}
		if field.Add(field.Add(a, b), c) != field.Add(a, field.Add(b, c)) || field.Mul(field.Mul(a, b), c) != field.Mul(a, field.Mul(b, c)) {
			t.Fatalf("grouping plays a part: %x, %x, %x", a, b, c)
		}
		if field.Mul(a, field.Add(b, c)) != field.Add(field.Mul(a, b), field.Mul(a, c)) {
			t.Fatalf("%x (%x + %x) is not shared out", a, b, c)
		}
		if field.Add(a, field.Neg(a)) != zero || field.Sub(a, b) != field.Add(a, field.Neg(b)) || field.Square(a) != field.Mul(a, a) {
			t.Fatalf("Neg, Sub or Square of %x, %x", a, b)
		}
		if field.Add(a, zero) != field.Reduce(a) || field.Mul(a, one) != field.Reduce(a) || field.Mul(a, zero) != zero {
			t.Fatalf("0 or 1 beside %x", a)
		}
		if inverse := field.Mul(a, field.Inv(a)); inverse != one && !field.Same(a, zero) {
			t.Fatalf("%x times its inverse: %x", a, inverse)
		}
	}
}

// P4.7
func TestBytesGoThereAndBack(t *testing.T) {
	for _, a := range some() {
		b := field.Encode(a)
		if c, e := field.Decode(b); e != api.OK || c != field.Reduce(a) || !field.Same(a, c) {
			t.Fatalf("%x comes back as %x, error %d", a, c, e)
		}
	}
	r := rand.New(rand.NewSource(9))
	read := 0
	for range 1000 {
		b := make([]byte, 32)
		r.Read(b)
		if a, e := field.Decode(b); e == api.OK {
			read++
			if c := field.Encode(a); !bytes.Equal(b, c) {
				t.Fatalf("%v comes back as %v", b, c)
			}
		} else if e != api.ErrField || b[31] < 128 {
			t.Fatalf("Decode(%v): error %d", b, e)
		}
	}
	if read < 300 {
		t.Errorf("only %d were read", read)
	}
}

// P4.8
func TestSquaresHaveRoots(t *testing.T) {
	l := some()
	for i, a := range l {
		r, ok := field.Root(field.Square(a), field.Small(1))
		if !ok || !field.Same(r, a) && !field.Same(r, field.Neg(a)) {
			t.Fatalf("the root of the square of %x: %x and %v", a, r, ok)
		}
		u, v := a, l[(i*7+3)%len(l)]
		if field.Same(u, api.Elem{}) || field.Same(v, api.Elem{}) {
			continue
		}
		_, once := field.Root(u, v)
		_, twice := field.Root(field.Add(u, u), v)
		if once == twice {
			t.Fatalf("roots of %x over %x and of twice that: %v and %v", u, v, once, twice)
		}
	}
}

// P4.9
func TestScalarsShareOut(t *testing.T) {
	l := numbers(32)
	for i, x := range l {
		a, b, c := littleOf(x, 32), littleOf(l[(i*7+3)%len(l)], 32), littleOf(l[(i*11+5)%len(l)], 32)
		sum, _ := field.Times([]byte{1}, b, c)
		whole, _ := field.Times(a, sum, nil)
		part, _ := field.Times(a, c, nil)
		parts, _ := field.Times(a, b, part)
		turned, _ := field.Times(b, a, part)
		if !bytes.Equal(whole, parts) || !bytes.Equal(parts, turned) || field.Scalar(whole) != api.OK {
			t.Fatalf("%v (%v + %v): %v, but shared out %v", a, b, c, whole, parts)
		}
		if f, e := field.Fold(whole); e != api.OK || !bytes.Equal(f, whole) {
			t.Fatalf("Fold of the scalar %v: %v and error %d", whole, f, e)
		}
	}
}

// P4.10
func TestToThePrimeLessOneIsOne(t *testing.T) {
	e := littleOf(less(prime, 1), 32)
	for _, a := range some() {
		want := field.Small(1)
		if field.Same(a, api.Elem{}) {
			want = api.Elem{}
		}
		if got, err := field.Pow(a, e); err != api.OK || got != want {
			t.Fatalf("%x to p - 1: %x and error %d", a, got, err)
		}
	}
}

// P1
func TestEveryCallEnds(t *testing.T) {
	r := rand.New(rand.NewSource(10))
	for range 3000 {
		b := make([]byte, r.Intn(70))
		r.Read(b)
		c := b[:r.Intn(len(b)+1)]
		_, decoded := field.Decode(b)
		folded, f := field.Fold(b)
		product, p := field.Times(b, c, c)
		scalar := field.Scalar(b)
		if (decoded == api.ErrArg) != (len(b) != 32) || (scalar == api.ErrArg) != (len(b) != 32) {
			t.Fatalf("%d bytes: errors %d and %d", len(b), decoded, scalar)
		}
		if (f == api.OK) != (len(b) <= 64) || (p == api.OK) != (len(b) <= 32) || f == api.OK && len(folded) != 32 || p == api.OK && len(product) != 32 {
			t.Fatalf("%d bytes: errors %d and %d, of %d and %d bytes", len(b), f, p, len(folded), len(product))
		}
	}
	long := make([]byte, 1<<20)
	field.Decode(long)
	field.Scalar(long)
	field.Fold(long)
	field.Times(nil, long, nil)
	field.Pow(api.Elem{3}, long)
}
