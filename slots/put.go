package slots

import (
	"imprimatur/api"
	"imprimatur/merkle"
)

// Put puts a chunk into its place.
func (s *Slots) Put(slot int, t api.Targets, place int, b []byte) api.Errno {
	if e := s.reach(slot, t.Size); e != api.OK {
		return e
	}
	n, e := merkle.Count(t.Size, t.Chunk)
	if e != api.OK || place < 0 || place >= n {
		return api.ErrArg
	}
	at := int64(place) * t.Chunk
	if int64(len(b)) != min(t.Chunk, t.Size-at) {
		return api.ErrArg
	}
	return s.fill(slot, int(at), b)
}

// fill puts bytes into a slot, from one of its bytes on, and flushes them.
func (s *Slots) fill(slot, at int, b []byte) api.Errno {
	for len(b) > 0 {
		n, e := s.share(s.first(slot)+at/api.Sector, at%api.Sector, b)
		if e != api.OK {
			return e
		}
		at += n
		b = b[n:]
	}
	return s.Flush()
}

// share puts as many bytes as there is room for into a sector, from one of its bytes on. Chunks need not end where sectors do: what else it has goes into the same write, so that no loss of power can part them.
func (s *Slots) share(sector, at int, b []byte) (int, api.Errno) {
	was, e := s.Read(sector)
	if e != api.OK {
		return 0, e
	}
	var whole [api.Sector]byte
	copy(whole[:], was)
	n := copy(whole[at:], b)
	return n, s.Write(sector, whole[:])
}
