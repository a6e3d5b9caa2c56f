package wire

import (
	"imprimatur/api"
)

// writer is the bytes that were written, within a room.
type writer struct {
	room
	done []byte
}

// Write is a value's bytes.
func Write(v api.Node, l Limits) ([]byte, api.Errno) {
	w := &writer{room: roomOf(l)}
	if f := faultOf(func() { w.whole(v) }); f.errno != api.OK {
		return nil, f.errno
	}
	return w.done, api.OK
}

// whole writes a value that is in none.
func (w *writer) whole(v api.Node) {
	if !Right(v) {
		panic(fault{0, api.ErrKind})
	}
	w.value(v, 1)
	if len(w.done) > w.Bytes {
		panic(fault{w.Bytes, api.ErrLong})
	}
}

// value writes a value so deep, that is built right.
func (w *writer) value(v api.Node, deep int) {
	w.begin(len(w.done), deep)
	w.done = append(w.done, byte(v.Kind))
	switch v.Kind {
	case api.VNum:
		w.count(v.Num)
	case api.VBytes:
		n := uint64(len(v.Bytes))
		w.hold(len(w.done), n)
		w.count(n)
		w.done = append(w.done, v.Bytes...)
	case api.VList:
		w.count(uint64(len(v.List)))
		for _, x := range v.List {
			w.value(x, deep+1)
		}
	}
}

// count writes a count.
func (w *writer) count(n uint64) {
	w.done = append(w.done, Count(n)...)
}
