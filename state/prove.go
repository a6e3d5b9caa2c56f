package state

import (
	"bytes"

	"imprimatur/api"
	"imprimatur/merkle"
	"imprimatur/roles"
)

// timeless is a time at which nothing has expired: what led to a bundle once leads to it still.
const timeless = -1

// Chain are the trusts in a pinned root, and in the roots behind it.
func Chain(pin []byte, l [][]byte) ([]roles.Trust, api.Errno) {
	t, e := roles.Pin(pin)
	if e != api.OK {
		return nil, e
	}
	chain := []roles.Trust{t}
	for _, b := range l {
		if t, e = roles.Rotate(t, b); e != api.OK {
			break
		}
		chain = append(chain, t)
	}
	return chain, api.OK
}

// Lead is the targets record that a slot's records lead to.
func Lead(t roles.Trust, s Slot) (api.Targets, api.Errno) {
	t, e := roles.Stamp(roles.Trust{Root: t.Root}, s.Stamp, timeless)
	if e != api.OK {
		return api.Targets{}, e
	}
	if t, e = roles.Snap(t, s.Snap, timeless); e != api.OK {
		return api.Targets{}, e
	}
	if t, e = roles.Aim(t, s.Aim, timeless); e != api.OK {
		return api.Targets{}, e
	}
	return t.Aim, api.OK
}

// Prove proves a slot. (An empty one has no records that lead anywhere.)
func Prove(l []roles.Trust, s Slot) (api.Targets, bool) {
	if s.Roots < 0 || s.Roots >= int64(len(l)) {
		return api.Targets{}, false
	}
	aim, e := Lead(l[s.Roots], s)
	if e != api.OK {
		return api.Targets{}, false
	}
	n, e := merkle.Count(aim.Size, aim.Chunk)
	if e != api.OK || !merkle.Right(s.Map, n) {
		return api.Targets{}, false
	}
	return aim, true
}

// Boot is a state that is proved anew, and the trust that it stands for.
func Boot(pin, b []byte) (State, roles.Trust, api.Errno) {
	s, _ := Read(b) // the empty one, if they are no state's
	l, e := Chain(pin, s.Roots)
	if e != api.OK {
		return State{}, roles.Trust{}, e
	}
	last := len(l) - 1
	s.Roots = s.Roots[:last:last]
	for i, slot := range s.Slots {
		if _, ok := Prove(l, slot); !ok {
			s.Slots[i] = Slot{}
		}
	}
	if s.Active > 0 && empty(s.Slots[s.Active-1]) {
		s.Active = 0
	}
	return s, standing(l[last], s), api.OK
}

// standing is the trust that a state stands for by one in its last root. It shares no memory with the state.
func standing(t roles.Trust, s State) roles.Trust {
	t.Time, t.Snap, t.Aim = s.Time, s.Snap, s.Aim
	t.Time.Snapshot.Hash = bytes.Clone(s.Time.Snapshot.Hash)
	t.Snap.Targets.Hash = bytes.Clone(s.Snap.Targets.Hash)
	t.Aim.Root = bytes.Clone(s.Aim.Root)
	return t
}
