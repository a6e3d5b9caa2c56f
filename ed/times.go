package ed

import (
	"imprimatur/api"
)

// term is a point so many times: the number's bytes, and the point 0 to 15 times.
type term struct {
	n     []byte
	times [16]api.Point
}

// termOf is n times a point.
func termOf(n []byte, p api.Point) term {
	t := term{n: n, times: [16]api.Point{Zero(), p}}
	for i := 2; i < len(t.times); i++ {
		t.times[i] = Add(t.times[i-1], p)
	}
	return t
}

// half is the point as often as half a byte of the number says: places count halves, the lower one of the first byte first; behind the end all are 0.
func (t *term) half(place int) api.Point {
	if place/2 >= len(t.n) {
		return t.times[0]
	}
	return t.times[t.n[place/2]>>(place%2*4)&15]
}

// sum is terms added up, from the greatest halves of bytes on: all share what is doubled.
func sum(terms ...term) api.Point {
	halves := 0
	for i := range terms {
		halves = max(halves, 2*len(terms[i].n))
	}
	r := Zero()
	for place := halves - 1; place >= 0; place-- {
		for range 4 {
			r = twice(r)
		}
		for i := range terms {
			r = Add(r, terms[i].half(place))
		}
	}
	return r
}

// Mul is a point so many times.
func Mul(n []byte, p api.Point) (api.Point, api.Errno) {
	if len(n) > size {
		return api.Point{}, api.ErrArg
	}
	return sum(termOf(n, p)), api.OK
}

// Mix is n times a point and m times the base, added up.
func Mix(n []byte, p api.Point, m []byte) (api.Point, api.Errno) {
	if max(len(n), len(m)) > size {
		return api.Point{}, api.ErrArg
	}
	return sum(termOf(n, p), termOf(m, Base())), api.OK
}
