package field

import (
	"bytes"

	"imprimatur/api"
)

// maxPower is how many bytes a number may have that an element is taken to.
const maxPower = 64

// rootOfLess1 is a square root of p - 1.
var rootOfLess1 = api.Elem{0x61b274a0ea0b0, 0x0d5a5fc8f189d, 0x7ef5e9cbd0c60, 0x78595a6804c9e, 0x2b8324804fc1d}

// Pow is an element to a number.
func Pow(a api.Elem, e []byte) (api.Elem, api.Errno) {
	if len(e) > maxPower {
		return api.Elem{}, api.ErrArg
	}
	powers := powersOf(a)
	r := Small(1)
	for i := len(e) - 1; i >= 0; i-- {
		for _, half := range [2]byte{e[i] >> 4, e[i] & 15} {
			for range 4 {
				r = Square(r)
			}
			r = Mul(r, powers[half])
		}
	}
	return r, api.OK
}

// powersOf is an element to 0, to 1 .. to 15.
func powersOf(a api.Elem) [16]api.Elem {
	powers := [16]api.Elem{Small(1)}
	for i := 1; i < len(powers); i++ {
		powers[i] = Mul(powers[i-1], a)
	}
	return powers
}

// power is an element to the number of 32 bytes that are all 255 but the first one and the last one, as those near the prime are.
func power(a api.Elem, first, last byte) api.Elem {
	e := bytes.Repeat([]byte{255}, size)
	e[0], e[size-1] = first, last
	r, _ := Pow(a, e) // no error: there are not too many bytes
	return r
}

// Inv is an inverse: to p less 2.
func Inv(a api.Elem) api.Elem {
	return power(a, 235, 127)
}

// Root is the even square root of a quotient.
func Root(u, v api.Elem) (api.Elem, bool) {
	v3 := Mul(Square(v), v)
	v7 := Mul(Square(v3), v)
	// To (p - 5) / 8, by v^7 ahead of it, spares an inverse. The square of r times v is then u times a fourth root of 1, if v is not 0.
	r := Mul(Mul(u, v3), power(Mul(u, v7), 253, 15))
	got := Mul(Square(r), v)
	if Same(got, Neg(u)) {
		r = Mul(r, rootOfLess1)
	} else if !Same(got, u) {
		return api.Elem{}, false
	}
	if Odd(r) {
		r = Neg(r)
	}
	return r, true
}
