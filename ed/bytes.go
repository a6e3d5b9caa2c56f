package ed

import (
	"bytes"

	"imprimatur/api"
	"imprimatur/field"
)

const (
	size    = 32       // bytes of a point, a number, a seed
	highest = 128      // the highest digit of a point's last byte
	last    = size - 1 // the place of that byte
)

// Decode is the point of bytes.
func Decode(b []byte) (api.Point, api.Errno) {
	if len(b) != size {
		return api.Point{}, api.ErrArg
	}
	odd := b[last]&highest != 0
	b = bytes.Clone(b)
	b[last] &^= highest
	y, e := field.Decode(b)
	if e != api.OK {
		return api.Point{}, api.ErrPoint
	}
	x, ok := across(y)
	if !ok {
		return api.Point{}, api.ErrPoint
	}
	if odd {
		x = field.Neg(x)
	}
	if field.Odd(x) != odd { // 0 is not odd on the other side either
		return api.Point{}, api.ErrPoint
	}
	return held(x, y), api.OK
}

// across is the even x of the points with a y, if there is one: its square is y^2 - 1 over d y^2 + 1.
func across(y api.Elem) (api.Elem, bool) {
	one, y2 := field.Small(1), field.Square(y)
	return field.Root(field.Sub(y2, one), field.Add(field.Mul(d, y2), one))
}

// Encode is a point's bytes.
func Encode(p api.Point) []byte {
	z := field.Inv(p.Z)
	b := field.Encode(field.Mul(p.Y, z))
	if field.Odd(field.Mul(p.X, z)) {
		b[last] |= highest
	}
	return b
}
