package state_test

import (
	"slices"
	"testing"

	"imprimatur/api"
	"imprimatur/meta"
	"imprimatur/roles"
	"imprimatur/state"
)

// P14.3: the example, and bytes that are no state's.
func TestBootWithoutAState(t *testing.T) {
	s := stateOf(2)
	b := written(t, s)
	s.Clock = -1
	for _, none := range [][]byte{nil, {}, {0}, b[1:], b[:len(b)-1], append(slices.Clone(b), 0), bytesOf(s), pin(), make([]byte, 1<<20)} {
		boots(t, "no state's bytes", pin(), none, state.State{}, chainOf(0)[0])
	}
	boots(t, "an empty state", pin(), bytesOf(state.State{}), state.State{}, chainOf(0)[0])
}

// P14.3
func TestBoot(t *testing.T) {
	for _, n := range []int{0, 1, 2, 3, 16} {
		for active := range int64(3) {
			s := stateOf(n)
			s.Active = active
			boots(t, "a state of which all is proved", pin(), written(t, s), s, trustOf(n, s))
		}
	}
}

// P14.3: Pin's error, whatever the state.
func TestBootRefuses(t *testing.T) {
	for b, want := range wrongPins() {
		for _, of := range [][]byte{nil, written(t, state.State{}), written(t, stateOf(1)), []byte("state")} {
			s, trust, e := state.Boot([]byte(b), of)
			if e != want || told(s) != told(state.State{}) || told(trust) != told(roles.Trust{}) {
				t.Errorf("Boot: error %d, not %d, or something beside it", e, want)
			}
		}
	}
}

// P14.3: the records and the clock of a state are kept, whatever else is left out; each of them may be none.
func TestBootKeepsTheRecords(t *testing.T) {
	for _, do := range []func(s *state.State){
		func(*state.State) {},
		func(s *state.State) { s.Time = api.Timestamp{} },
		func(s *state.State) { s.Snap = api.Snapshot{} },
		func(s *state.State) { s.Aim = api.Targets{} },
		func(s *state.State) { s.Clock = most },
	} {
		s := full() // its roots and slots are none that are trusted
		do(&s)
		want := state.State{Time: s.Time, Snap: s.Snap, Aim: s.Aim, Clock: s.Clock}
		boots(t, "nothing is proved", pin(), written(t, s), want, trustOf(0, s))
	}
}

// P14.3, P14.7: the first root that is not trusted is left out, those behind it too, and the slots by any of them are empty.
func TestBootLeavesOutRoots(t *testing.T) {
	const n = 4
	for i := range n {
		for _, b := range [][]byte{spoilt(rootBytes(i + 2)), rootBytes(i + 1), rootBytes(i + 3), {1}} {
			for _, by := range [][2]int{{1, 5}, {5, 1}, {i + 1, i + 2}, {i + 2, i + 1}, {i + 1, i + 1}, {i + 2, 5}} {
				for active := range int64(3) {
					s := stateOf(n)
					s.Roots[i] = b
					s.Active = active
					want := copyOf(s)
					want.Roots = rootsBehind(i)
					for slot, version := range by {
						s.Slots[slot], _ = slotOf(version, 1000, 64)
						want.Slots[slot] = s.Slots[slot]
						if version > i+1 {
							want.Slots[slot] = state.Slot{}
							if active == int64(slot+1) {
								want.Active = 0
							}
						}
					}
					boots(t, "a root that is not trusted", pin(), written(t, s), want, trustOf(i, s))
				}
			}
		}
	}
}

// P14.3: each slot that is not proved is empty, and no more active; the other one stays as it is.
func TestBootEmptiesSlots(t *testing.T) {
	for slot := range 2 {
		spoil := []func(s *state.Slot){
			func(s *state.Slot) { s.Roots-- },
			func(s *state.Slot) { s.Stamp = []byte{1} },
			func(s *state.Slot) { s.Stamp = spoilt(s.Stamp) },
			func(s *state.Slot) { s.Snap = spoilt(s.Snap) },
			func(s *state.Slot) { s.Aim = spoilt(s.Aim) },
			func(s *state.Slot) { s.Map = append(s.Map, 0) },
			func(s *state.Slot) { s.Map = s.Map[1:] },
			func(s *state.Slot) { s.Map[len(s.Map)-1] |= 128 },
			func(s *state.Slot) { *s, _ = slotOf(9, 1000, 64) },
			func(s *state.Slot) { *s = state.Slot{} },
		}
		for i, do := range spoil {
			for active := range int64(3) {
				s := stateOf(3)
				s.Slots[slot], _ = slotOf(4, 100, 64)
				do(&s.Slots[slot])
				if i == 8 {
					s.Slots[slot].Roots = 3
				}
				s.Active = active
				want := copyOf(s)
				want.Slots[slot] = state.Slot{}
				if active == int64(slot+1) {
					want.Active = 0
				}
				boots(t, "a slot that is not proved", pin(), written(t, s), want, trustOf(3, s))
			}
		}
	}
	s := stateOf(2)
	s.Slots[0].Stamp, s.Slots[1].Aim = []byte{1}, []byte{2}
	want := copyOf(s)
	want.Slots, want.Active = [2]state.Slot{}, 0
	boots(t, "two slots that are not proved", pin(), written(t, s), want, trustOf(2, s))
}

// P14.3: a slot is proved whenever it is asked: that all has expired is no matter, nor what the clock says.
func TestBootWhenAllHasExpired(t *testing.T) {
	p := pathOf(1, 300, 100)
	s := state.State{Time: p.time, Clock: most, Active: 1}
	s.Slots[0] = p.slot()
	s.Time = p.time
	boots(t, "all has expired", pin(), written(t, s), s, trustOf(0, s))
}

// P14.7: with a pinned root that is another one no root and no slot is trusted, but by what that one leads to.
func TestBootWithAnotherPin(t *testing.T) {
	s := stateOf(3)
	b := written(t, s)
	none := state.State{Time: s.Time, Snap: s.Snap, Aim: s.Aim, Clock: s.Clock}
	for version := 2; version < 6; version++ {
		trust := trustOf(version-1, s)
		boots(t, "a later pin", rootBytes(version), b, none, trust)
	}
	// A pinned root of the same version, with other keys but those of the roles that a slot is led to by.
	other := rootOf(1)
	other.Roles[api.RRoot].Keys = [][]byte{private(8, api.RRoot)[32:]}
	another := sealed(api.RRoot, must(meta.WriteRoot(other)), 8)
	s.Slots[0], _ = slotOf(1, 1000, 64)
	s.Active = 1
	want := none
	want.Slots[0], want.Active = s.Slots[0], 1
	boots(t, "a pin by whose roles a slot is proved", another, written(t, s), want, roles.Trust{Root: other, Time: s.Time, Snap: s.Snap, Aim: s.Aim})
	// The roots behind a later pin, which are trusted by it, with slots by their number from there on.
	s = stateOf(3)
	s.Roots = s.Roots[1:]
	s.Slots[0].Roots, s.Slots[1].Roots = 2, 1
	boots(t, "the roots behind a later pin", rootBytes(2), written(t, s), s, trustOf(3, s))
}
