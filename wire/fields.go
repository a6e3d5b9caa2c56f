package wire

import (
	"bytes"
	"math"

	"imprimatur/api"
	"imprimatur/score"
)

// Fields are the values of a list, read one by one. One that Open did not make is broken.
type Fields struct {
	whole bool       // not broken
	left  []api.Node // the values that were not read yet
}

// Open is a reader of a list's values.
func Open(v api.Node) *Fields {
	if v.Kind != api.VList {
		return &Fields{}
	}
	return &Fields{whole: true, left: copies(v.List)}
}

// next is the next value, if it is of a kind and as it must be; if not, it is the zero one, and the reader is broken.
func (f *Fields) next(kind int, fits func(api.Node) bool) api.Node {
	if f == nil {
		return api.Node{}
	}
	if len(f.left) == 0 || f.left[0].Kind != kind || !fits(f.left[0]) {
		*f = Fields{}
		return api.Node{}
	}
	v := f.left[0]
	f.left = f.left[1:]
	return v
}

// Num is a number.
func (f *Fields) Num() uint64 {
	return f.next(api.VNum, func(api.Node) bool { return true }).Num
}

// Int is a number within bounds.
func (f *Fields) Int(least, most int64) int64 {
	v := f.next(api.VNum, func(v api.Node) bool {
		return v.Num <= math.MaxInt64 && within(int64(v.Num), least, most)
	})
	return int64(v.Num)
}

// Bytes are bytes, so many.
func (f *Fields) Bytes(least, most int) []byte {
	v := f.next(api.VBytes, func(v api.Node) bool { return within(len(v.Bytes), least, most) })
	// A copy, though it was read: whoever copied the reader may read it again.
	return bytes.Clone(v.Bytes)
}

// Score is a score.
func (f *Fields) Score() float64 {
	v := f.next(api.VBytes, func(v api.Node) bool {
		_, e := score.Read(v.Bytes)
		return e == api.OK
	})
	x, _ := score.Read(v.Bytes) // 0, if there is none
	return x
}

// List is values, so many.
func (f *Fields) List(least, most int) []api.Node {
	v := f.next(api.VList, func(v api.Node) bool { return within(len(v.List), least, most) })
	return copies(v.List)
}

// Done tells whether nothing is left, and nothing was wrong.
func (f *Fields) Done() bool {
	return f != nil && f.whole && len(f.left) == 0
}

// within tells whether a number is from least to most.
func within[N int | int64](n, least, most N) bool {
	return n >= least && n <= most
}
