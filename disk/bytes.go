package disk

import (
	"imprimatur/api"
)

// span is the error of n bytes from a sector on that are not all on the disk. Of no bytes the sector may be the one behind the last.
func (d *Disk) span(at, n int) api.Errno {
	if at < 0 || at > d.Size() {
		return api.ErrPlace
	}
	sectors := n / api.Sector
	if n%api.Sector != 0 {
		sectors++
	}
	if sectors > d.Size()-at {
		return api.ErrPlace
	}
	return api.OK
}

// Load reads bytes over several sectors.
func Load(d *Disk, at, n int) ([]byte, api.Errno) {
	if e := d.ready(); e != api.OK {
		return nil, e
	}
	if n < 0 {
		return nil, api.ErrArg
	}
	if e := d.span(at, n); e != api.OK {
		return nil, e
	}
	b := make([]byte, 0, n)
	for ; len(b) < n; at++ {
		s, _ := d.Read(at) // no error: it is up, and all of the span is there
		b = append(b, s[:min(len(s), n-len(b))]...)
	}
	return b, api.OK
}

// Save writes bytes over several sectors.
func Save(d *Disk, at int, b []byte) api.Errno {
	if e := d.ready(); e != api.OK {
		return e
	}
	if e := d.span(at, len(b)); e != api.OK {
		return e
	}
	var s [api.Sector]byte
	for ; len(b) > 0; at++ {
		n := copy(s[:], b)
		clear(s[n:]) // what the sector ahead of it left
		b = b[n:]
		if e := d.Write(at, s[:]); e != api.OK {
			return e
		}
	}
	return api.OK
}
