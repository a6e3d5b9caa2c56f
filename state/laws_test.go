package state_test

import (
	"bytes"
	"math/rand"
	"testing"

	"imprimatur/api"
	"imprimatur/roles"
	"imprimatur/state"
)

// shaken is a state of which some parts are spoilt, left out, or in another's place.
func shaken(r *rand.Rand) state.State {
	n := r.Intn(4)
	s := stateOf(n)
	s.Clock, s.Active = r.Int63n(most), r.Int63n(3)
	if n > 0 && r.Intn(3) == 0 {
		i := r.Intn(n)
		s.Roots[i] = [][]byte{spoilt(s.Roots[i]), s.Roots[r.Intn(n)], pin(), {1}}[r.Intn(4)]
	}
	for i := range s.Slots {
		slot := &s.Slots[i]
		switch r.Intn(8) {
		case 0:
			slot.Stamp = spoilt(slot.Stamp)
		case 1:
			slot.Snap, slot.Aim = slot.Aim, slot.Snap
		case 2:
			slot.Map = someBytes(r, 3)
		case 3:
			slot.Roots = r.Int63n(int64(n + 1))
		case 4:
			*slot = state.Slot{}
		case 5:
			*slot, _ = slotOf(1+r.Intn(n+1), 1+r.Int63n(5000), 64+r.Int63n(900))
		}
	}
	if r.Intn(4) == 0 {
		s.Time, s.Aim = api.Timestamp{}, api.Targets{}
	}
	return s
}

// P14.5, P14.6, P14.7: of states of chance, some of them spoilt in their bytes, what is booted is proved, and stays.
func TestBootOfStatesOfChance(t *testing.T) {
	r := rand.New(rand.NewSource(1))
	kept, emptied, cut, inactive := 0, 0, 0, 0
	for range 150 {
		s := shaken(r)
		b := written(t, s)
		if r.Intn(10) == 0 {
			b[r.Intn(len(b))] ^= 1 << r.Intn(8)
		}
		key := 1
		if r.Intn(8) == 0 {
			key = 2
		}
		is, trust, e := state.Boot(rootBytes(key), b)
		done(t, e)
		l, e := state.Chain(rootBytes(key), is.Roots)
		done(t, e)
		if len(l) != len(is.Roots)+1 || told(trust) != told(roles.Trust{Root: l[len(l)-1].Root, Time: is.Time, Snap: is.Snap, Aim: is.Aim}) {
			t.Fatal("a root that is not trusted is in a state that was booted, or the trust is another one")
		}
		for _, slot := range is.Slots {
			if told(slot) == told(state.Slot{}) {
				emptied++
				continue
			}
			kept++
			aim, e := state.Lead(l[slot.Roots], slot)
			done(t, e)
			proves(t, "a slot that was booted", l, slot, aim)
		}
		if is.Active > 0 && told(is.Slots[is.Active-1]) == told(state.Slot{}) {
			t.Fatal("an empty slot is active")
		}
		boots(t, "booted, written and booted again", rootBytes(key), written(t, is), is, trust)
		if len(is.Roots) < len(s.Roots) {
			cut++
		}
		if s.Active > 0 && is.Active == 0 {
			inactive++
		}
	}
	if kept < 30 || emptied < 30 || cut < 15 || inactive < 15 {
		t.Errorf("slots: %d kept, %d emptied; roots were left out %d times, active slots %d times", kept, emptied, cut, inactive)
	}
}

// P14.4: states of chance, right or not.
func TestStatesOfChanceThereAndBack(t *testing.T) {
	r := rand.New(rand.NewSource(2))
	for range 200 {
		s := shaken(r)
		b := written(t, s)
		if !bytes.Equal(b, bytesOf(s)) {
			t.Fatal("Write: other bytes")
		}
		reads(t, "a state of chance", b, s)
	}
}

// Rule 3: what is handed in is neither changed nor kept.
func TestArgumentsAreNeitherChangedNorKept(t *testing.T) {
	s := stateOf(2)
	before := told(s)
	b := written(t, s)
	read, e := state.Read(b)
	done(t, e)
	key := pin()
	is, trust, e := state.Boot(key, b)
	done(t, e)
	l, e := state.Chain(key, s.Roots)
	done(t, e)
	aim, ok := state.Prove(l, s.Slots[0])
	if told(s) != before || !bytes.Equal(key, pin()) || !bytes.Equal(b, bytesOf(s)) || !ok {
		t.Fatal("what is handed in is changed")
	}
	chain, target := told(l), told(aim)
	clear(key)
	clear(b)
	spoil(&s)
	if told(read) != before || told(is) != before || told(trust) != told(trustOf(2, read)) || told(l) != chain || told(aim) != target {
		t.Error("what is handed in is kept")
	}
}

// spoil clears all memory of a state.
func spoil(s *state.State) {
	for _, b := range append(s.Roots[:len(s.Roots):len(s.Roots)], s.Time.Snapshot.Hash, s.Snap.Targets.Hash, s.Aim.Root) {
		clear(b[:cap(b)])
	}
	clear(s.Roots)
	for _, slot := range s.Slots {
		for _, b := range [][]byte{slot.Stamp, slot.Snap, slot.Aim, slot.Map} {
			clear(b[:cap(b)])
		}
	}
}

// spoilTrust clears all memory of a trust.
func spoilTrust(trust roles.Trust) {
	for i, r := range trust.Root.Roles {
		for _, k := range r.Keys {
			clear(k)
		}
		clear(r.Keys)
		trust.Root.Roles[i] = api.Role{}
	}
	clear(trust.Time.Snapshot.Hash)
	clear(trust.Snap.Targets.Hash)
	clear(trust.Aim.Root)
}

// Rule 3: what is answered shares no memory, neither with another part of the answer nor with another answer.
func TestAnswersShareNoMemory(t *testing.T) {
	s := stateOf(3)
	s.Slots[1] = s.Slots[0]
	s.Roots[2] = rootBytes(4)
	b := written(t, s)
	before, root := told(s), told(trustOf(3, s))
	is, trust, _ := state.Boot(pin(), b)
	spoilTrust(trust)
	if told(is) != before {
		t.Error("a trust shares memory with its state")
	}
	is, trust, _ = state.Boot(pin(), b)
	spoil(&is)
	if told(trust) != root {
		t.Error("a state shares memory with its trust")
	}
	is, _ = state.Read(b)
	clear(is.Slots[0].Map)
	clear(is.Roots[0])
	is.Roots = append(is.Roots[:1], nil)
	if told(is.Slots[1]) != told(s.Slots[1]) {
		t.Error("slots share memory")
	}
	for i := range 4 {
		l, _ := state.Chain(pin(), s.Roots)
		spoilTrust(l[i])
		for j, x := range chainOf(3) {
			if j != i && told(l[j]) != told(x) {
				t.Errorf("the trusts %d and %d of a chain share memory", i, j)
			}
		}
	}
	l := chainOf(3)
	aim, _ := state.Lead(l[3], s.Slots[0])
	clear(aim.Root)
	leads(t, "again", l[3], s.Slots[0], s.Aim)
	reads(t, "again", b, s)
}

// P1: arguments of chance, in all sorts of sizes.
func TestEveryCallEnds(t *testing.T) {
	r := rand.New(rand.NewSource(3))
	num := func() int64 {
		if r.Intn(2) == 0 {
			return ends[r.Intn(len(ends))]
		}
		return int64(r.Intn(5))
	}
	whole := stateOf(2)
	slot := func() state.Slot {
		s := whole.Slots[r.Intn(2)]
		for _, p := range []*[]byte{&s.Stamp, &s.Snap, &s.Aim, &s.Map} {
			if r.Intn(4) == 0 {
				*p = someBytes(r, 600)
			}
		}
		if r.Intn(2) == 0 {
			s.Roots = num()
		}
		return s
	}
	trusts := append(chainOf(2), roles.Trust{}, roles.Trust{Root: api.Root{Version: num(), Roles: []api.Role{{Need: num()}, {Need: num(), Keys: [][]byte{nil, {1}}}}}})
	for range 300 {
		s := whole
		s.Slots = [2]state.Slot{slot(), slot()}
		s.Clock, s.Active = num(), num()
		s.Time.Version, s.Snap.Targets.Size, s.Aim.Chunk = num(), num(), num()
		b, e := state.Write(s)
		if (e == api.OK) != (len(b) > 0) {
			t.Fatalf("Write: %d bytes and error %d", len(b), e)
		}
		state.Lead(trusts[r.Intn(len(trusts))], slot())
		state.Prove(trusts[:r.Intn(len(trusts))], slot())
		for _, b := range [][]byte{someBytes(r, 40), append([]byte{3, 7}, someBytes(r, 40)...), b} {
			state.Read(b)
			state.Chain(b, [][]byte{nil, b})
			state.Boot(b, b)
		}
	}
	for range 20 {
		b := written(t, whole)
		b[r.Intn(len(b))] ^= 1 << r.Intn(8)
		state.Boot(pin(), b)
		state.Boot(b, pin())
		state.Chain(pin(), [][]byte{b, nil})
	}
}
