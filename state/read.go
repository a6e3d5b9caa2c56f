package state

import (
	"math"

	"imprimatur/api"
	"imprimatur/meta"
	"imprimatur/wire"
)

// parts are the values of a list, read one by one as the parts of a state. How much of each there may be is asked of the whole state, as when it is written.
type parts struct {
	*wire.Fields
	wrong bool // a part was not what it must be, though its value could be read
}

// Read is the state of bytes.
func Read(b []byte) (State, api.Errno) {
	v, _, e := wire.Read(b, limits())
	if e != api.OK {
		return State{}, api.ErrState
	}
	p := &parts{Fields: wire.Open(v)}
	s := p.state()
	if !p.right() || !bounded(s) {
		return State{}, api.ErrState
	}
	return s, api.OK
}

// right tells whether all was as it must be, with nothing left.
func (p *parts) right() bool {
	return !p.wrong && p.Done()
}

func (p *parts) state() State {
	return State{
		Roots:  p.roots(),
		Time:   record(p, meta.ReadTimestamp),
		Snap:   record(p, meta.ReadSnapshot),
		Aim:    record(p, meta.ReadTargets),
		Clock:  p.number(),
		Active: p.number(),
		Slots:  p.slots(),
	}
}

func (p *parts) number() int64 {
	return p.Int(0, math.MaxInt64)
}

func (p *parts) bytes() []byte {
	return p.Bytes(0, math.MaxInt)
}

// record goes on to a record in its bytes; to none, if there are none.
func record[R any](p *parts, read func([]byte) (R, api.Errno)) R {
	var none R
	b := p.bytes()
	if len(b) == 0 {
		return none
	}
	r, e := read(b)
	p.wrong = p.wrong || e != api.OK
	return r
}

// open goes on to a list, and is its parts, and how many there are.
func (p *parts) open() (*parts, int) {
	l := p.List(0, math.MaxInt)
	return &parts{Fields: wire.Open(wire.List(l...))}, len(l)
}

// end ends a list that was opened.
func (p *parts) end(in *parts) {
	p.wrong = p.wrong || !in.right()
}

func (p *parts) roots() [][]byte {
	in, many := p.open()
	l := make([][]byte, many)
	for i := range l {
		l[i] = in.bytes()
	}
	p.end(in)
	return l
}

func (p *parts) slots() [2]Slot {
	var l [2]Slot
	in, _ := p.open()
	for i := range l {
		l[i] = in.slot()
	}
	p.end(in)
	return l
}

func (p *parts) slot() Slot {
	in, _ := p.open()
	s := Slot{Roots: in.number(), Stamp: in.bytes(), Snap: in.bytes(), Aim: in.bytes(), Map: in.bytes()}
	p.end(in)
	return s
}
