package wire

import (
	"imprimatur/api"
)

// Limits are what a value may be: how many bytes in all, how deep, how many values in all, how many bytes one VBytes has.
type Limits struct {
	Bytes, Deep, Many, Each int
}

// Whole are the widest limits.
func Whole() Limits {
	return Limits{Bytes: api.MaxBytes, Deep: api.MaxDeep, Many: api.MaxMany, Each: api.MaxBytes}
}

// room is limits, none of them below 0, and how many values were begun within them so far.
type room struct {
	Limits
	begun int
}

// roomOf is the room of limits, of which nothing is taken.
func roomOf(l Limits) room {
	return room{Limits: Limits{Bytes: max(l.Bytes, 0), Deep: max(l.Deep, 0), Many: max(l.Many, 0), Each: max(l.Each, 0)}}
}

// begin takes the room of a value so deep, whose bytes begin at a place.
func (r *room) begin(at, deep int) {
	if deep > r.Deep {
		panic(fault{at, api.ErrDeep})
	}
	if r.begun == r.Many {
		panic(fault{at, api.ErrMany})
	}
	r.begun++
}

// hold asks whether one VBytes may have n bytes; their count stands at a place.
func (r *room) hold(at int, n uint64) {
	if n > uint64(r.Each) {
		panic(fault{at, api.ErrLong})
	}
}

// fault is what is wrong, and where: what goes through values or bytes gives up by a panic with it.
type fault struct {
	at    int
	errno api.Errno
}

// faultOf is the fault that do gives up with; without a place and an error, if it does not.
func faultOf(do func()) (f fault) {
	defer func() {
		r := recover()
		if given, ok := r.(fault); ok {
			f = given
		} else if r != nil {
			panic(r) // nothing here panics otherwise; if it did, that must not pass for an answer
		}
	}()
	do()
	return fault{}
}
