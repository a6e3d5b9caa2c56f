package ed_test

import (
	"bytes"
	"math/big"
	"math/rand"
	"testing"

	"imprimatur/api"
	"imprimatur/ed"
)

// P5.5
func TestPointsAreAGroup(t *testing.T) {
	l := some()
	for i, a := range l {
		for k := range 12 {
			p, q, r := hold(a)[k%5], hold(l[(i*7+k)%len(l)])[(k+1)%5], hold(l[(i*11+k*5)%len(l)])[(k+2)%5]
			if !ed.Same(ed.Add(p, q), ed.Add(q, p)) {
				t.Fatalf("order plays a part: %x, %x", p, q)
			}
			if !ed.Same(ed.Add(ed.Add(p, q), r), ed.Add(p, ed.Add(q, r))) {
				t.Fatalf("grouping plays a part: %x, %x, %x", p, q, r)
			}
			if !ed.Same(ed.Add(p, ed.Zero()), p) || !ed.Same(ed.Add(ed.Zero(), p), p) {
				t.Fatalf("zero is not zero beside %x", p)
			}
			if !ed.Same(ed.Add(p, ed.Neg(p)), ed.Zero()) || !ed.Same(ed.Neg(ed.Neg(p)), p) {
				t.Fatalf("%x and its Neg do not make zero", p)
			}
		}
	}
}

// P5.6
func TestTimesAddUp(t *testing.T) {
	r := rand.New(rand.NewSource(9))
	for i, a := range some() {
		p := hold(a)[i%5]
		n, m := new(big.Int).Rand(r, power2(255)), new(big.Int).Rand(r, power2(uint(r.Intn(256))))
		x, e := ed.Mul(littleOf(n, 32), p)
		y, f := ed.Mul(littleOf(m, 32), p)
		both, g := ed.Mul(littleOf(new(big.Int).Add(n, m), 32), p)
		if e != api.OK || f != api.OK || g != api.OK || !ed.Same(ed.Add(x, y), both) {
			t.Fatalf("%v and %v times %x: %x and %x, together %x", n, m, p, x, y, both)
		}
		none, _ := ed.Mul(nil, p)
		once, _ := ed.Mul([]byte{1}, p)
		if !ed.Same(none, ed.Zero()) || !ed.Same(once, p) {
			t.Fatalf("0 times and once %x: %x and %x", p, none, once)
		}
		eight, _ := ed.Mul(littleOf(new(big.Int).Mul(order, big.NewInt(8)), 32), p)
		if !ed.Same(eight, ed.Zero()) {
			t.Fatalf("8 L times %x: %x", p, eight)
		}
	}
	if p, e := ed.Mul(littleOf(order, 32), ed.Base()); e != api.OK || !ed.Same(p, ed.Zero()) {
		t.Errorf("L times the base: %x and error %d", p, e)
	}
	if p, e := ed.Mix(nil, ed.Base(), littleOf(order, 32)); e != api.OK || !ed.Same(p, ed.Zero()) {
		t.Errorf("L times the base, mixed with nothing: %x and error %d", p, e)
	}
}

// P5.6: of a point of small order a number is not to be taken modulo L.
func TestSmallOrdersCount(t *testing.T) {
	l := twisted()
	k := new(big.Int).And(order, big.NewInt(7)).Int64()
	for i, p := range l {
		q, _ := ed.Mul(littleOf(order, 32), hold(p)[2])
		holds(t, "L times", q, l[int64(i)*k%8], i)
		m, _ := ed.Mix(littleOf(order, 32), hold(p)[3], nil)
		holds(t, "L times, mixed", m, l[int64(i)*k%8], i)
	}
}

// P5.7
func TestBytesGoThereAndBack(t *testing.T) {
	seen := map[string]int{}
	for i, a := range some() {
		for _, p := range hold(a) {
			b := ed.Encode(p)
			q, e := ed.Decode(b)
			if e != api.OK || !ed.Same(p, q) || !bytes.Equal(ed.Encode(q), b) {
				t.Fatalf("%x comes back as %x, error %d", p, q, e)
			}
			if k, ok := seen[string(b)]; ok && !a.is(some()[k]) {
				t.Fatalf("the points %d and %d have the same bytes", i, k)
			}
			seen[string(b)] = i
		}
	}
	r := rand.New(rand.NewSource(10))
	read := 0
	for range 2000 {
		b := make([]byte, 32)
		r.Read(b)
		p, e := ed.Decode(b)
		if e == api.OK {
			read++
			if c := ed.Encode(p); !bytes.Equal(b, c) || !ed.On(p) {
				t.Fatalf("%v comes back as %v", b, c)
			}
		} else if e != api.ErrPoint {
			t.Fatalf("Decode(%v): error %d", b, e)
		}
	}
	if read < 800 || read > 1200 {
		t.Errorf("%d of 2000 were read", read)
	}
}
