package wire

import (
	"imprimatur/api"
)

// reader is bytes that are gone through, within a room, and the place up to which they were.
type reader struct {
	room
	bytes []byte
	at    int
}

// Read is the value of bytes; of bytes that are none's, the place of what is wrong.
func Read(b []byte, l Limits) (api.Node, int, api.Errno) {
	r := &reader{room: roomOf(l), bytes: b}
	v := api.Node{}
	f := faultOf(func() { v = r.whole() })
	return v, f.at, f.errno
}

// whole reads a value that is in none, and all of the bytes.
func (r *reader) whole() api.Node {
	if len(r.bytes) > r.Bytes {
		panic(fault{0, api.ErrLong})
	}
	v := r.value(1)
	if r.at < len(r.bytes) {
		panic(fault{r.at, api.ErrRest})
	}
	return v
}

// value reads a value so deep.
func (r *reader) value(deep int) api.Node {
	at := r.at
	if at == len(r.bytes) {
		panic(fault{at, api.ErrShort})
	}
	r.begin(at, deep)
	r.at++
	switch int(r.bytes[at]) {
	case api.VNum:
		return Num(r.count())
	case api.VBytes:
		return Bytes(r.piece())
	case api.VList:
		return api.Node{Kind: api.VList, List: r.values(r.count(), deep+1)}
	}
	panic(fault{at, api.ErrKind})
}

// count reads a count.
func (r *reader) count() uint64 {
	n, at, e := ReadCount(r.bytes, r.at)
	if e != api.OK {
		panic(fault{at, e})
	}
	r.at = at
	return n
}

// piece reads the bytes of a VBytes, with their count.
func (r *reader) piece() []byte {
	at := r.at
	n := r.count()
	r.hold(at, n)
	left := r.bytes[r.at:]
	if n > uint64(len(left)) {
		panic(fault{r.at, api.ErrShort})
	}
	r.at += int(n)
	return left[:n]
}

// values reads n values so deep. Nothing is made ahead for them: a count may tell of far more than follow.
func (r *reader) values(n uint64, deep int) []api.Node {
	var l []api.Node
	for range n {
		l = append(l, r.value(deep))
	}
	return l
}
