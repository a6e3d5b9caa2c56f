package updater

import (
	"bytes"
	"slices"

	"imprimatur/api"
	"imprimatur/merkle"
	"imprimatur/roles"
	"imprimatur/state"
)

// begin wants the next root, or, as no more may be, what is behind the roots.
func (a *attempt) begin() api.Errno {
	a.rest()
	if len(a.Roots) >= api.MaxRoots {
		return a.behindRoots()
	}
	a.want = Want{Kind: wantRoot, Version: a.trust.Root.Version + 1}
	return api.OK
}

// behindRoots goes on to the timestamp. Only now must the root not have expired: there was none behind it that might stand for it.
func (a *attempt) behindRoots() api.Errno {
	if e := roles.Fresh(a.trust, a.Clock); e != api.OK {
		return e
	}
	a.want = Want{Kind: wantTimestamp}
	return api.OK
}

// root does what a reply to the next root does.
func (a *attempt) root(reply []byte) api.Errno {
	if len(reply) == 0 { // there is none
		return a.behindRoots()
	}
	t, e := roles.Rotate(a.trust, reply)
	if e != api.OK {
		return e
	}
	a.trust = t
	a.Roots = append(slices.Clip(a.Roots), bytes.Clone(reply))
	return a.begin()
}

// timestamp does what a reply to the timestamp does.
func (a *attempt) timestamp(reply []byte) api.Errno {
	t, e := roles.Stamp(a.trust, reply, a.Clock)
	if e != api.OK {
		return e
	}
	a.trust, a.Time = t, t.Time
	a.lead.Stamp = bytes.Clone(reply)
	a.want = Want{Kind: wantSnapshot, Version: t.Time.Snapshot.Version}
	return api.OK
}

// snapshot does what a reply to the snapshot does.
func (a *attempt) snapshot(reply []byte) api.Errno {
	t, e := roles.Snap(a.trust, reply, a.Clock)
	if e != api.OK {
		return e
	}
	a.trust, a.Snap = t, t.Snap
	a.lead.Snap = bytes.Clone(reply)
	a.want = Want{Kind: wantTargets, Version: t.Snap.Targets.Version}
	return api.OK
}

// targets does what a reply to the targets record does.
func (u *Updater) targets(a *attempt, reply []byte) api.Errno {
	t, e := roles.Aim(a.trust, reply, a.Clock)
	if e != api.OK {
		return e
	}
	if t.Aim.Size > int64(u.slots.Room()) {
		return api.ErrSize
	}
	a.trust, a.Aim = t, t.Aim
	a.lead.Aim = bytes.Clone(reply)
	if i, ok := a.active(); ok && alike(a.proved[i], a.Aim) { // nothing is to be fetched
		a.lay(i)
		a.rest()
		return api.OK
	}
	a.lay(a.spare())
	return u.lookOn(a)
}

// lay lets a slot be the one that the update's replies lead to. Its chunks stay there, if the bundle is still the same.
func (a *attempt) lay(i int) {
	m := a.Slots[i].Map
	if !alike(a.proved[i], a.Aim) {
		m, _ = merkle.Empty(chunks(a.Aim))
	}
	a.Slots[i] = state.Slot{Roots: int64(len(a.Roots)), Stamp: a.lead.Stamp, Snap: a.lead.Snap, Aim: a.lead.Aim, Map: m}
	a.proved[i] = a.Aim
	a.lead = state.Slot{}
}
