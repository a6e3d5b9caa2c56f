package updater

import (
	"bytes"

	"imprimatur/api"
	"imprimatur/roles"
	"imprimatur/state"
	"imprimatur/vocab"
)

// Status is how an updater does.
type Status struct {
	Versions [4]int64
	Active   int64
	Stale    bool
	Clock    int64
	Want     Want
}

// Want is what it wants.
func (u *Updater) Want() Want {
	if u == nil {
		return Want{}
	}
	return u.want
}

// Status is how it does.
func (u *Updater) Status(clock int64) (Status, api.Errno) {
	if e := u.ready(); e != api.OK {
		return Status{}, e
	}
	now := u.now(clock)
	s := Status{Versions: roles.Versions(u.trust), Stale: u.stale(now), Clock: now, Want: u.want}
	if i, ok := u.active(); ok {
		s.Active = u.proved[i].Version
	}
	return s, api.OK
}

// stale tells whether nobody says any more that what is known is the last that was published. (A timestamp that there is not has expired at 0.)
func (k *known) stale(now int64) bool {
	return k.Time.Expires <= now || roles.Fresh(k.trust, now) != api.OK
}

// serving is the active slot.
func (u *Updater) serving() (int, api.Errno) {
	if e := u.ready(); e != api.OK {
		return 0, e
	}
	i, ok := u.active()
	if !ok {
		return 0, api.ErrNone
	}
	return i, api.OK
}

// Active is the bundle that is served.
func (u *Updater) Active() ([]byte, api.Errno) {
	i, e := u.serving()
	if e != api.OK {
		return nil, e
	}
	return u.slots.Get(i, u.proved[i].Size)
}

// Vocab is the vocabulary that is served.
func (u *Updater) Vocab() (api.Vocab, api.Errno) {
	b, e := u.Active()
	if e != api.OK {
		return api.Vocab{}, e
	}
	return vocab.Load(b)
}

// Evidence is what the bundle that is served is proved by.
func (u *Updater) Evidence() ([][]byte, state.Slot, api.Errno) {
	i, e := u.serving()
	if e != api.OK {
		return nil, state.Slot{}, e
	}
	s := u.Slots[i]
	var l [][]byte
	for _, b := range u.Roots[:s.Roots] {
		l = append(l, bytes.Clone(b))
	}
	return l, own(s), api.OK
}

// own is a slot in memory of its own.
func own(s state.Slot) state.Slot {
	s.Stamp, s.Snap = bytes.Clone(s.Stamp), bytes.Clone(s.Snap)
	s.Aim, s.Map = bytes.Clone(s.Aim), bytes.Clone(s.Map)
	return s
}
