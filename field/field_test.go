package field_test

import (
	"bytes"
	"math"
	"math/big"
	"slices"
	"testing"

	"imprimatur/api"
	"imprimatur/field"
)

// P4.1
func TestSmall(t *testing.T) {
	for _, c := range []struct {
		n    uint64
		want api.Elem
	}{
		{0, api.Elem{}}, {1, api.Elem{1}}, {4, api.Elem{4}}, {low, api.Elem{low}}, {low + 1, api.Elem{0, 1}},
		{1<<52 + 7, api.Elem{7, 2}}, {1 << 63, api.Elem{0, 1 << 12}}, {math.MaxUint64, api.Elem{low, 1<<13 - 1}},
	} {
		if got := field.Small(c.n); got != c.want {
			t.Errorf("Small(%d): %x, not %x", c.n, got, c.want)
		}
	}
}

// P4.1
func TestReduce(t *testing.T) {
	for _, c := range [][2]api.Elem{
		{{}, {}}, {{5, 6, 7, 8, 9}, {5, 6, 7, 8, 9}},
		{{low - 18, low, low, low, low}, {}}, {{low - 17, low, low, low, low}, {1}}, {{low, low, low, low, low}, {18}},
		{{low - 19, low, low, low, low}, {low - 19, low, low, low, low}}, // p - 1
		{{0, 0, 0, 0, 1 << 51}, {19}}, {{low + 1, low, low, low, low}, {19}}, {{low + 1}, {0, 1}}, {{0, 0, 0, 1 << 52}, {0, 0, 0, 0, 2}},
		{{low - 18, low, low, low - 1, low}, {low - 18, low, low, low - 1, low}}, {{low, low, low, low, low - 1}, {low, low, low, low, low - 1}},
	} {
		if got := field.Reduce(c[0]); got != c[1] {
			t.Errorf("Reduce(%x): %x, not %x", c[0], got, c[1])
		}
	}
	for _, a := range some() {
		stands(t, "Reduce", field.Reduce(a), number(a), a)
	}
}

// P4.1
func TestDecode(t *testing.T) {
	for _, x := range []*big.Int{
		big.NewInt(0), big.NewInt(1), big.NewInt(255), power2(51), power2(102), power2(153), power2(204), power2(254),
		less(prime, 1), less(prime, 2), less(power2(254), 1), power2(64), power2(128), power2(192),
	} {
		if a, e := field.Decode(littleOf(x, 32)); e != api.OK || a != small(x) {
			t.Errorf("Decode of %v: %x and error %d, not %x", x, a, e, small(x))
		}
	}
	for i := range uint(255) {
		if a, e := field.Decode(littleOf(power2(i), 32)); e != api.OK || a != small(power2(i)) {
			t.Errorf("Decode of 2^%d: %x and error %d", i, a, e)
		}
	}
	b := littleOf(less(prime, 1), 32)
	if a, e := field.Decode(b); e != api.OK || a != field.Neg(field.Small(1)) {
		t.Errorf("Decode of p - 1: %x and error %d", a, e)
	}
}

// P4.1
func TestDecodeRefuses(t *testing.T) {
	for _, n := range []int{0, 1, 31, 33, 64, 1000} {
		for _, y := range []byte{0, 1, 255} {
			if a, e := field.Decode(bytes.Repeat([]byte{y}, n)); e != api.ErrArg || a != (api.Elem{}) {
				t.Errorf("Decode of %d bytes %d: %x and error %d", n, y, a, e)
			}
		}
	}
	if a, e := field.Decode(nil); e != api.ErrArg || a != (api.Elem{}) {
		t.Errorf("Decode of none: %x and error %d", a, e)
	}
	beyond := []*big.Int{power2(255), plus(power2(255), big.NewInt(5)), less(power2(256), 1), plus(prime, prime), less(plus(prime, power2(255)), 1), plus(prime, power2(255))}
	for n := range int64(19) { // from p to 2^255 - 1
		beyond = append(beyond, less(prime, -n))
	}
	for _, x := range beyond {
		if a, e := field.Decode(littleOf(x, 32)); e != api.ErrField || a != (api.Elem{}) {
			t.Errorf("Decode of %v: %x and error %d", x, a, e)
		}
	}
}

// P4.1
func TestEncode(t *testing.T) {
	want := append(append([]byte{236}, bytes.Repeat([]byte{255}, 30)...), 127)
	if b := field.Encode(field.Neg(field.Small(1))); !bytes.Equal(b, want) {
		t.Errorf("Encode of p - 1: %v", b)
	}
	if b := field.Encode(field.Small(0x0102030405060708)); !bytes.Equal(b, append([]byte{8, 7, 6, 5, 4, 3, 2, 1}, make([]byte, 24)...)) {
		t.Errorf("Encode of 0102030405060708: %v", b)
	}
	for _, a := range some() {
		if b := field.Encode(a); !bytes.Equal(b, littleOf(number(a), 32)) {
			t.Fatalf("Encode(%x): %v", a, b)
		}
	}
}

// P4.2
func TestSumsAndProducts(t *testing.T) {
	for _, p := range pairs() {
		a, b := p[0], p[1]
		x, y := number(a), number(b)
		stands(t, "Add", field.Add(a, b), plus(x, y), a, b)
		stands(t, "Sub", field.Sub(a, b), minus(x, y), a, b)
		stands(t, "Mul", field.Mul(a, b), times(x, y), a, b)
	}
	for _, a := range some() {
		x := number(a)
		stands(t, "Neg", field.Neg(a), minus(new(big.Int), x), a)
		stands(t, "Square", field.Square(a), times(x, x), a)
	}
}

// P4.2
func TestSame(t *testing.T) {
	for _, p := range pairs() {
		want := number(p[0]).Cmp(number(p[1])) == 0
		if got := field.Same(p[0], p[1]); got != want {
			t.Fatalf("Same of %x: %v", p, got)
		}
	}
	p := api.Elem{low - 18, low, low, low, low}
	if !field.Same(p, api.Elem{}) || !field.Same(api.Elem{19}, api.Elem{0, 0, 0, 0, 1 << 51}) || field.Same(api.Elem{1}, api.Elem{0, 1}) {
		t.Error("elements that are written otherwise are not told to be the same, or others are")
	}
}

// P4.2
func TestOdd(t *testing.T) {
	for _, a := range some() {
		if got := field.Odd(a); got != (number(a).Bit(0) == 1) {
			t.Fatalf("Odd(%x): %v", a, got)
		}
	}
	if field.Odd(api.Elem{low - 18, low, low, low, low}) || !field.Odd(api.Elem{0, 0, 0, 0, 1 << 51}) {
		t.Error("odd is told of the limbs, not of the number")
	}
}

// Rule 3 of the document: what is handed in is neither changed nor kept, what is answered is new memory.
func TestMemoryIsNotShared(t *testing.T) {
	five := littleOf(big.NewInt(5), 32)
	kept := slices.Clone(five)
	a, _ := field.Decode(five)
	field.Scalar(five)
	field.Pow(a, five)
	f, _ := field.Fold(five)
	m, _ := field.Times(five, five, five)
	e := field.Encode(a)
	if !bytes.Equal(five, kept) {
		t.Error("what was handed in is changed")
	}
	for _, b := range [][]byte{f, m, e} {
		clear(b)
		_ = append(b, 9)
	}
	if !bytes.Equal(five, kept) || !bytes.Equal(field.Encode(a), kept) {
		t.Error("Encode hands out memory that is shared")
	}
	if g, _ := field.Fold(five); !bytes.Equal(g, kept) {
		t.Error("Fold hands out memory that is shared")
	}
	if g, _ := field.Times(five, five, five); !bytes.Equal(g, littleOf(big.NewInt(30), 32)) {
		t.Error("Times hands out memory that is shared")
	}
}

func BenchmarkMul(b *testing.B) {
	x := some()[300]
	for b.Loop() {
		x = field.Mul(x, x)
	}
}

func BenchmarkAdd(b *testing.B) {
	x := some()[300]
	for b.Loop() {
		x = field.Add(x, x)
	}
}

func BenchmarkInv(b *testing.B) {
	x := some()[300]
	for b.Loop() {
		x = field.Inv(x)
	}
}

func BenchmarkFold(b *testing.B) {
	n := bytes.Repeat([]byte{201}, 64)
	for b.Loop() {
		field.Fold(n)
	}
}
