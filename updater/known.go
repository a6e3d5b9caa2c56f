package updater

import (
	"bytes"

	"imprimatur/api"
	"imprimatur/merkle"
	"imprimatur/roles"
	"imprimatur/state"
)

// mostNumber is the greatest number of a clock.
const mostNumber = 1 << 62

// known is all that a step may change: the state and the trust that it stands for, and how far an update is. What its slices have is never changed, so that one that is copied stays as it was.
type known struct {
	state.State
	trust  roles.Trust
	proved [2]api.Targets // the records by which the slots are that are not empty
	lead   state.Slot     // the replies that lead to the update's targets record, as far as they have come
	want   Want
}

// attempt is what a step may come to: what is known behind it, if it goes well, and what is, if it fails.
type attempt struct {
	known
	failed known
}

// attempt is one at a reading of the clock at which nothing was done yet.
func (k *known) attempt(clock int64) *attempt {
	a := &attempt{known: *k, failed: *k}
	a.Clock = k.now(clock)
	a.failed.Clock = a.Clock
	a.failed.rest()
	return a
}

// now is the time by a reading of the clock.
func (k *known) now(clock int64) int64 {
	return max(k.Clock, min(clock, mostNumber))
}

// rest lets nothing be wanted.
func (k *known) rest() {
	k.want = Want{}
	k.lead = state.Slot{}
}

// prove finds the records by which the slots are proved.
func (k *known) prove(pin []byte) {
	l, _ := state.Chain(pin, k.Roots) // the state was booted by that pin
	for i, slot := range k.Slots {
		k.proved[i], _ = state.Prove(l, slot)
	}
}

// numberOf is how a state tells that a slot is active.
func numberOf(slot int) int64 {
	return int64(slot + 1)
}

// active is the active slot, if there is one.
func (k *known) active() (int, bool) {
	return int(k.State.Active - 1), k.State.Active > 0
}

// spare is the slot that is filled: the one that is not active.
func (k *known) spare() int {
	if i, ok := k.active(); ok {
		return 1 - i
	}
	return 0
}

// missing is the first chunk that a slot misses, and how many there must be.
func (k *known) missing(i int) (place, n int) {
	n = chunks(k.proved[i])
	return merkle.Missing(k.Slots[i].Map, n), n
}

// chunks is how many chunks a record tells of.
func chunks(t api.Targets) int {
	n, _ := merkle.Count(t.Size, t.Chunk)
	return n
}

// alike tells whether two records tell of one bundle in the same chunks.
func alike(a, b api.Targets) bool {
	return a.Size == b.Size && a.Chunk == b.Chunk && bytes.Equal(a.Root, b.Root)
}
