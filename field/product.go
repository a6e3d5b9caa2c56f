package field

import (
	"math/bits"

	"imprimatur/api"
)

// wide is a sum of products of limbs.
type wide struct {
	hi, lo uint64
}

// plus is the sum, and a product more.
func (w wide) plus(x, y uint64) wide {
	hi, lo := bits.Mul64(x, y)
	lo, over := bits.Add64(w.lo, lo, 0)
	hi, _ = bits.Add64(w.hi, hi, over)
	return wide{hi, lo}
}

// above is the digits above the 51st; of light limbs, they fit, 19 times too.
func (w wide) above() uint64 {
	return w.hi<<(64-digits) | w.lo>>digits
}

// narrow is the small element of five sums in the places of limbs.
func narrow(w *[limbs]wide) (a api.Elem) {
	over := wrap * w[limbs-1].above()
	for i := range limbs {
		a[i] = w[i].lo&low + over
		over = w[i].above()
	}
	reduce(&a)
	return a
}

// Mul is a product.
func Mul(a, b api.Elem) api.Elem {
	lighten(&a)
	lighten(&b)
	a0, a1, a2, a3, a4 := a[0], a[1], a[2], a[3], a[4]
	b0, b1, b2, b3, b4 := b[0], b[1], b[2], b[3], b[4]
	// A product whose place is behind the last limb's stands 5 places ahead of it, for 19 times as much.
	c1, c2, c3, c4 := wrap*b1, wrap*b2, wrap*b3, wrap*b4
	return narrow(&[limbs]wide{
		wide{}.plus(a0, b0).plus(a1, c4).plus(a2, c3).plus(a3, c2).plus(a4, c1),
		wide{}.plus(a0, b1).plus(a1, b0).plus(a2, c4).plus(a3, c3).plus(a4, c2),
		wide{}.plus(a0, b2).plus(a1, b1).plus(a2, b0).plus(a3, c4).plus(a4, c3),
		wide{}.plus(a0, b3).plus(a1, b2).plus(a2, b1).plus(a3, b0).plus(a4, c4),
		wide{}.plus(a0, b4).plus(a1, b3).plus(a2, b2).plus(a3, b1).plus(a4, b0),
	})
}

// Square is a product with itself: as Mul, but the products that come twice are made once.
func Square(a api.Elem) api.Elem {
	lighten(&a)
	a0, a1, a2, a3, a4 := a[0], a[1], a[2], a[3], a[4]
	d0, d1, d2, d3 := 2*a0, 2*a1, 2*a2, 2*a3
	c3, c4 := wrap*a3, wrap*a4
	return narrow(&[limbs]wide{
		wide{}.plus(a0, a0).plus(d1, c4).plus(d2, c3),
		wide{}.plus(d0, a1).plus(d2, c4).plus(a3, c3),
		wide{}.plus(d0, a2).plus(a1, a1).plus(d3, c4),
		wide{}.plus(d0, a3).plus(d1, a2).plus(a4, c4),
		wide{}.plus(d0, a4).plus(d1, a3).plus(a2, a2),
	})
}
