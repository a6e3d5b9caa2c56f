package ed_test

import (
	"bytes"
	"math"
	"math/big"
	"math/rand"
	"slices"
	"testing"

	"imprimatur/api"
	"imprimatur/ed"
)

// P5.1
func TestZeroAndBase(t *testing.T) {
	holds(t, "Zero", ed.Zero(), zero())
	holds(t, "Base", ed.Base(), base())
	if !ed.On(ed.Zero()) || !ed.On(ed.Base()) || ed.Same(ed.Zero(), ed.Base()) {
		t.Error("Zero and Base are not told to be two points")
	}
	if b := ed.Encode(ed.Base()); !bytes.Equal(b, append([]byte{88}, bytes.Repeat([]byte{102}, 31)...)) {
		t.Errorf("Encode of Base: %v", b)
	}
	if b := ed.Encode(ed.Zero()); !bytes.Equal(b, append([]byte{1}, make([]byte, 31)...)) {
		t.Errorf("Encode of Zero: %v", b)
	}
}

// P5.1
func TestOn(t *testing.T) {
	for _, p := range some() {
		for _, h := range hold(p) {
			if !ed.On(h) {
				t.Fatalf("On(%x): false", h)
			}
			for i := range 4 {
				wrong := h
				[]*api.Elem{&wrong.X, &wrong.Y, &wrong.Z, &wrong.T}[i][2] ^= 1
				if ed.On(wrong) {
					t.Fatalf("On(%x): true, limb 2 of element %d being another one", wrong, i)
				}
			}
		}
	}
}

// P5.1
func TestOnRefuses(t *testing.T) {
	p := [5]uint64{low - 18, low, low, low, low}
	one := api.Elem{1}
	b := held(base(), big.NewInt(1), 0)
	less := b
	less.T = small(minus(new(big.Int), number(b.T)))
	for _, q := range []api.Point{
		{}, {X: p, Y: p, Z: p, T: p}, {Y: one}, {Y: one, Z: p}, {Z: one}, {X: one, Z: one}, {X: one, Y: one, Z: one, T: one},
		{Y: one, Z: one, T: one}, {Y: one, Z: api.Elem{2}}, {X: b.X, Y: b.Y, T: b.T}, {X: b.X, Y: b.Y, Z: b.Z},
		{X: b.Y, Y: b.X, Z: b.Z, T: b.T}, {X: b.X, Y: b.Y, Z: api.Elem{2}, T: b.T}, less,
		// On a curve that has 2 x, the product being right; then the product of another one that is on the curve.
		held(pair{plus(base().x, base().x), base().y}, big.NewInt(1), 0),
		{X: b.X, Y: b.Y, Z: b.Z, T: small(times(number(b.T), big.NewInt(2)))},
	} {
		if ed.On(q) {
			t.Errorf("On(%x): true", q)
		}
		if ed.Same(q, q) || ed.Same(q, b) || ed.Same(b, q) {
			t.Errorf("Same of %x, that is no point: true", q)
		}
	}
}

// P5.1
func TestSame(t *testing.T) {
	for i, p := range some() {
		for k, q := range some() {
			for n, h := range hold(p) {
				g := hold(q)[(n+i+k)%5]
				if got := ed.Same(h, g); got != p.is(q) {
					t.Fatalf("Same of the points %d and %d: %v", i, k, got)
				}
			}
		}
		for _, h := range hold(p) {
			for _, g := range hold(p) {
				if !ed.Same(h, g) {
					t.Fatalf("Same(%x, %x): false", h, g)
				}
			}
		}
	}
}

// P5.1
func TestEncode(t *testing.T) {
	for _, p := range some() {
		for _, h := range hold(p) {
			if b := ed.Encode(h); !bytes.Equal(b, bytesOf(p)) {
				t.Fatalf("Encode(%x): %v, not %v", h, b, bytesOf(p))
			}
		}
	}
}

// P5.1
func TestDecode(t *testing.T) {
	for _, p := range some() {
		q, e := ed.Decode(bytesOf(p))
		if e != api.OK {
			t.Fatalf("Decode(%v): error %d", bytesOf(p), e)
		}
		holds(t, "Decode", q, p)
	}
	r := rand.New(rand.NewSource(7))
	var l []*big.Int
	for n := range int64(80) {
		l = append(l, big.NewInt(n), minus(big.NewInt(-1), big.NewInt(n)), new(big.Int).Rand(r, prime))
	}
	for _, y := range l {
		for _, odd := range []bool{false, true} {
			b := littleOf(y, 32)
			if odd {
				b[31] |= 128
			}
			p, ok := pairOf(y, odd)
			q, e := ed.Decode(b)
			if ok = ok && (p.x.Bit(0) == 1) == odd; !ok && (e != api.ErrPoint || !isZero(q)) {
				t.Fatalf("Decode(%v), that are no point's: %x and error %d", b, q, e)
			}
			if ok {
				if e != api.OK {
					t.Fatalf("Decode(%v): error %d", b, e)
				}
				holds(t, "Decode", q, p)
			}
		}
	}
}

// P5.1
func TestDecodeRefuses(t *testing.T) {
	for _, n := range []int{0, 1, 31, 33, 64, 1000} {
		for _, y := range []byte{0, 1, 255} {
			if p, e := ed.Decode(bytes.Repeat([]byte{y}, n)); e != api.ErrArg || !isZero(p) {
				t.Errorf("Decode of %d bytes %d: %x and error %d", n, y, p, e)
			}
		}
	}
	if p, e := ed.Decode(nil); e != api.ErrArg || !isZero(p) {
		t.Errorf("Decode of none: %x and error %d", p, e)
	}
	var wrong [][]byte
	for n := range int64(19) { // y from p to 2^255 - 1
		b := littleOf(new(big.Int).Add(prime, big.NewInt(n)), 32)
		wrong = append(wrong, b)
	}
	// x 0 with the highest digit set
	for _, p := range []pair{zero(), {big.NewInt(0), minus(new(big.Int), big.NewInt(1))}} {
		b := bytesOf(p)
		if _, e := ed.Decode(b); e != api.OK {
			t.Errorf("Decode(%v): error %d", b, e)
		}
		b[31] |= 128
		wrong = append(wrong, b)
	}
	for _, b := range wrong {
		for _, sign := range []byte{b[31], b[31] | 128} {
			b[31] = sign
			if p, e := ed.Decode(b); e != api.ErrPoint || !isZero(p) {
				t.Errorf("Decode(%v): %x and error %d", b, p, e)
			}
		}
	}
}

// P5.2
func TestAdd(t *testing.T) {
	for i, p := range some() {
		for k, q := range some() {
			h, g := hold(p)[(i+k)%5], hold(q)[(i*3+k*2)%5]
			holds(t, "Add", ed.Add(h, g), added(p, q), h, g)
		}
		for n, h := range hold(p) {
			holds(t, "Add to itself", ed.Add(h, h), added(p, p), h)
			holds(t, "Add to itself, held otherwise", ed.Add(h, hold(p)[(n+1)%5]), added(p, p), h)
		}
	}
}

// P5.2
func TestNeg(t *testing.T) {
	for _, p := range some() {
		for _, h := range hold(p) {
			holds(t, "Neg", ed.Neg(h), other(p), h)
		}
	}
}

// P5.2
func TestMul(t *testing.T) {
	for i, p := range some()[:20] {
		for k, n := range numbers() {
			if (i+k)%5 != 0 && i != 1 && i != 8 {
				continue
			}
			h := hold(p)[(i+k)%5]
			q, e := ed.Mul(n, h)
			if e != api.OK {
				t.Fatalf("Mul(%v, %x): error %d", n, h, e)
			}
			holds(t, "Mul", q, often(numberOf(n), p), n, h)
		}
	}
	p, h := base(), ed.Base()
	want := zero()
	for n := range 300 { // each half of a byte, and both together
		q, _ := ed.Mul([]byte{byte(n), byte(n >> 8)}, h)
		holds(t, "Mul", q, want, n)
		want = added(want, p)
	}
}

// P5.2
func TestMix(t *testing.T) {
	l, ps := numbers(), some()
	for i, n := range l {
		m, p := l[(i*7+3)%len(l)], ps[(i*3+1)%len(ps)]
		h := hold(p)[i%5]
		q, e := ed.Mix(n, h, m)
		if e != api.OK {
			t.Fatalf("Mix(%v, %x, %v): error %d", n, h, m, e)
		}
		holds(t, "Mix", q, added(often(numberOf(n), p), often(numberOf(m), base())), n, h, m)
	}
	for _, c := range [][2][]byte{{nil, nil}, {{5}, nil}, {nil, {5}}, {{0, 0, 0, 9}, {200}}, {{200}, {0, 0, 0, 9}}} {
		p := ps[20]
		q, e := ed.Mix(c[0], hold(p)[2], c[1])
		if e != api.OK {
			t.Fatalf("Mix of %v: error %d", c, e)
		}
		holds(t, "Mix", q, added(often(numberOf(c[0]), p), often(numberOf(c[1]), base())), c)
	}
}

// P5.2
func TestMulAndMixRefuse(t *testing.T) {
	b := ed.Base()
	for _, n := range []int{33, 34, 64, 1000} {
		for _, y := range []byte{0, 1, 255} {
			long := bytes.Repeat([]byte{y}, n)
			if p, e := ed.Mul(long, b); e != api.ErrArg || !isZero(p) {
				t.Errorf("Mul by %d bytes: %x and error %d", n, p, e)
			}
			for _, c := range [][2][]byte{{long, {1}}, {{1}, long}, {long, long}} {
				if p, e := ed.Mix(c[0], b, c[1]); e != api.ErrArg || !isZero(p) {
					t.Errorf("Mix of %d and %d bytes: %x and error %d", len(c[0]), len(c[1]), p, e)
				}
			}
		}
	}
}

// P1
func TestEveryCallEnds(t *testing.T) {
	r := rand.New(rand.NewSource(8))
	most := api.Elem{math.MaxUint64, math.MaxUint64, math.MaxUint64, math.MaxUint64, math.MaxUint64}
	l := []api.Point{{}, {X: most, Y: most, Z: most, T: most}, {X: most}, {Z: most}, {T: most}}
	for range 60 {
		var p api.Point
		for _, a := range []*api.Elem{&p.X, &p.Y, &p.Z, &p.T} {
			for i := range a {
				a[i] = r.Uint64() >> r.Intn(64)
			}
		}
		l = append(l, p)
	}
	for i, p := range l { // held ones of no point
		q := l[(i*7+1)%len(l)]
		ed.Same(p, q)
		ed.Add(p, q)
		ed.Neg(p)
		ed.Encode(p)
		b := make([]byte, r.Intn(40))
		r.Read(b)
		_, mul := ed.Mul(b, p)
		_, mix := ed.Mix(b, p, b)
		_, decoded := ed.Decode(b)
		if ed.On(p) || (mul == api.OK) != (len(b) <= 32) || (mix == api.OK) != (len(b) <= 32) || (decoded == api.ErrArg) != (len(b) != 32) {
			t.Fatalf("%x, %d bytes: errors %d, %d, %d", p, len(b), mul, mix, decoded)
		}
	}
}

// Rule 3 of the document: what is handed in is neither changed nor kept, what is answered is new memory.
func TestPointsShareNoMemory(t *testing.T) {
	n, b := bytes.Repeat([]byte{201}, 32), bytesOf(other(base()))
	kept := [][]byte{slices.Clone(n), slices.Clone(b)}
	p, _ := ed.Decode(b)
	ed.Mul(n, p)
	ed.Mix(n, p, n)
	if !bytes.Equal(n, kept[0]) || !bytes.Equal(b, kept[1]) {
		t.Error("what was handed in is changed")
	}
	clear(b)
	c := ed.Encode(p)
	clear(c)
	if !bytes.Equal(ed.Encode(p), kept[1]) || !bytes.Equal(ed.Encode(ed.Neg(ed.Base())), kept[1]) {
		t.Error("Decode keeps, or Encode hands out, memory that is shared")
	}
}
