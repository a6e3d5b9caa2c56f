package meta

import (
	"math"

	"imprimatur/api"
	"imprimatur/wire"
)

// parts goes through the values of a list, in order: it writes what it is told them to be, or reads them into that. So each record is told once for both.
type parts struct {
	from  *wire.Fields // what is read; nil, if it is written
	made  []api.Node   // what was written
	wrong bool         // something was not as it must be
}

// reads tells whether values are read.
func (p *parts) reads() bool {
	return p.from != nil
}

// must is told what must hold.
func (p *parts) must(holds bool) {
	p.wrong = p.wrong || !holds
}

// right tells whether all was as it must be, with nothing left to read.
func (p *parts) right() bool {
	return !p.wrong && (!p.reads() || p.from.Done())
}

// number goes on to a number from least to most.
func (p *parts) number(n *int64, least, most int64) {
	if p.reads() {
		*n = p.from.Int(least, most)
		return
	}
	p.must(*n >= least && *n <= most)
	p.made = append(p.made, wire.Num(uint64(*n)))
}

// bytes goes on to bytes, from least to most of them.
func (p *parts) bytes(b *[]byte, least, most int) {
	if p.reads() {
		*b = p.from.Bytes(least, most)
		return
	}
	p.must(len(*b) >= least && len(*b) <= most)
	if !p.wrong { // what is wrong may be long: it is not copied
		p.made = append(p.made, wire.Bytes(*b))
	}
}

// open goes on to a list, and is the parts of that, and how many there are to read.
func (p *parts) open() (in *parts, many int) {
	if !p.reads() {
		return &parts{}, 0
	}
	l := p.from.List(0, math.MaxInt)
	return &parts{from: wire.Open(wire.List(l...))}, len(l)
}

// end ends a list that was opened.
func (p *parts) end(in *parts) {
	p.must(in.right())
	if !p.reads() {
		p.made = append(p.made, wire.List(in.made...))
	}
}

// inner goes on to a record that is a list by itself.
func inner[R any](p *parts, r *R, how func(*parts, *R)) {
	in, _ := p.open()
	how(in, r)
	p.end(in)
}

// row goes on to a list of from least to most alike.
func row[R any](p *parts, l *[]R, least, most int, each func(*parts, *R)) {
	in, many := p.open()
	if p.reads() {
		*l = make([]R, many)
	}
	p.must(len(*l) >= least && len(*l) <= most)
	if p.wrong { // what is wrong may be long: it is not gone through
		return
	}
	for i := range *l {
		each(in, &(*l)[i])
	}
	p.end(in)
}

// limits are those of a record's bytes.
func limits() wire.Limits {
	return wire.Limits{Bytes: api.MaxMeta, Deep: 8, Many: 1 << 10, Each: api.MaxMeta}
}

// write is a record's bytes.
func write[R any](r R, how func(*parts, *R)) ([]byte, api.Errno) {
	p := &parts{}
	how(p, &r)
	if !p.right() {
		return nil, api.ErrMeta
	}
	b, e := wire.Write(wire.List(p.made...), limits())
	if e != api.OK {
		return nil, api.ErrLong
	}
	return b, api.OK
}

// read is the record of bytes.
func read[R any](b []byte, how func(*parts, *R)) (R, api.Errno) {
	var r, none R
	v, _, e := wire.Read(b, limits())
	if e != api.OK {
		return none, api.ErrMeta
	}
	p := &parts{from: wire.Open(v)}
	how(p, &r)
	if !p.right() {
		return none, api.ErrMeta
	}
	return r, api.OK
}
