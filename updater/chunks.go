package updater

import (
	"imprimatur/api"
	"imprimatur/merkle"
	"imprimatur/state"
	"imprimatur/wire"
)

// limits are those of a chunk's reply.
func limits() wire.Limits {
	return wire.Limits{Bytes: api.MaxBytes, Deep: 3, Many: 64, Each: api.MaxChunk}
}

// chunkIn are the chunk and the proof in a reply, if it is one.
func chunkIn(reply []byte) (chunk []byte, proof [][]byte, ok bool) {
	v, _, e := wire.Read(reply, limits())
	if e != api.OK {
		return nil, nil, false
	}
	f := wire.Open(v)
	chunk = f.Bytes(0, api.MaxChunk)
	l := f.List(0, limits().Many)
	pieces := wire.Open(wire.List(l...))
	for range l {
		proof = append(proof, pieces.Bytes(0, api.MaxChunk))
	}
	return chunk, proof, f.Done() && pieces.Done()
}

// chunk does what a reply to a chunk does.
func (u *Updater) chunk(a *attempt, reply []byte) api.Errno {
	b, proof, ok := chunkIn(reply)
	if !ok {
		return api.ErrMeta
	}
	i, place := a.spare(), a.want.Place
	t, slot := a.proved[i], &a.Slots[i]
	if int64(len(b)) != min(t.Chunk, t.Size-t.Chunk*int64(place)) {
		return api.ErrSize
	}
	if !proves(t, place, b, proof) {
		return api.ErrProof
	}
	if e := u.slots.Put(i, t, place, b); e != api.OK {
		return e
	}
	slot.Map, _ = merkle.Put(slot.Map, chunks(t), place)
	return u.lookOn(a)
}

// proves tells whether a proof leads from a chunk to a record's root.
func proves(t api.Targets, place int, b []byte, proof [][]byte) bool {
	leaf, e := merkle.Leaf(place, b)
	return e == api.OK && merkle.Check(t.Root, chunks(t), place, leaf, proof) == api.OK
}

// lookOn goes on in the slot that is filled: to the first chunk that it misses, or, as it misses none, to serving it.
func (u *Updater) lookOn(a *attempt) api.Errno {
	i := a.spare()
	if place, n := a.missing(i); place < n {
		a.want = Want{Kind: wantChunk, Version: a.proved[i].Version, Place: place}
		return api.OK
	}
	if _, e := u.slots.Holds(i, a.proved[i]); e != api.OK {
		// Its map tells of chunks that are not there, or are no vocabulary's: with an empty slot they are fetched again.
		a.failed.Slots[i], a.failed.proved[i] = state.Slot{}, api.Targets{}
		return e
	}
	a.State.Active = numberOf(i)
	a.rest()
	return api.OK
}
