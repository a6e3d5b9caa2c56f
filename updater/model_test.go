package updater_test

import (
	"bytes"

	"imprimatur/api"
	"imprimatur/merkle"
	"imprimatur/roles"
	"imprimatur/state"
	"imprimatur/updater"
	"imprimatur/vocab"
	"imprimatur/wire"
)

// model is an updater as the chapter's words tell of it, row by row: it has nothing but its state and what is wanted, and proves all of it from there.
type model struct {
	c       updater.Config
	s       state.State
	want    updater.Want
	replies state.Slot // those since it began
	slots   [2][]byte  // the bytes on the disk
	chains  map[string][]roles.Trust
	proofs  map[string]api.Targets
}

func newModel() *model {
	m := &model{c: config(), chains: map[string][]roles.Trust{}, proofs: map[string]api.Targets{}}
	m.slots = [2][]byte{make([]byte, 64*room), make([]byte, 64*room)}
	m.boot(nil)
	return m
}

// result is what a row comes to: an error, or what is changed and wanted.
type result struct {
	e      api.Errno
	s      state.State
	want   updater.Want
	empty  int // the slot that is empty behind a failure, counted from 1 on
	stored [2][]byte
	keep   state.Slot // the replies
}

// chain are the trusts in a state's roots. (What was reckoned once is not reckoned again: it takes its time.)
func (m *model) chain(s state.State) []roles.Trust {
	key := string(bytes.Join(s.Roots, []byte("and")))
	if m.chains[key] == nil {
		m.chains[key] = must(state.Chain(m.c.Pin, s.Roots))
	}
	return m.chains[key]
}

func (m *model) trust(s state.State) roles.Trust {
	l := m.chain(s)
	t := l[len(l)-1]
	t.Time, t.Snap, t.Aim = s.Time, s.Snap, s.Aim
	return t
}

// by is the record by which a slot is proved.
func (m *model) by(s state.State, i int) (api.Targets, bool) {
	x := s.Slots[i]
	key := string(bytes.Join(append(s.Roots[:len(s.Roots):len(s.Roots)], x.Stamp, x.Snap, x.Aim, x.Map, []byte{byte(x.Roots)}), []byte("and")))
	if _, there := m.proofs[key]; !there {
		m.proofs[key], _ = state.Prove(m.chain(s), x)
	}
	return m.proofs[key], m.proofs[key].Version > 0
}

// holds is the error of a slot that does not hold a record.
func (m *model) holds(slots [2][]byte, i int, x api.Targets) api.Errno {
	if x.Size > int64(len(slots[i])) {
		return api.ErrSlot
	}
	b := slots[i][:x.Size]
	if !bytes.Equal(must(merkle.Of(b, x.Chunk)), x.Root) {
		return api.ErrHash
	}
	_, e := vocab.Load(b)
	return e
}

func countOf(x api.Targets) int {
	return must(merkle.Count(x.Size, x.Chunk))
}

// serving tells whether a slot serves.
func (m *model) serving(i int) bool {
	x, ok := m.by(m.s, i)
	return ok && merkle.Missing(m.s.Slots[i].Map, countOf(x)) == countOf(x) && m.holds(m.slots, i, x) == api.OK
}

// boot boots it from the bytes of its record.
func (m *model) boot(record []byte) {
	m.s, _, _ = state.Boot(m.c.Pin, record)
	order := []int{0, 1}
	if m.s.Active == 2 {
		order = []int{1, 0}
	}
	m.s.Active = 0
	for _, i := range order {
		if m.s.Active == 0 && m.serving(i) {
			m.s.Active = int64(i + 1)
		}
	}
	m.want, m.replies = updater.Want{}, state.Slot{}
}

func (m *model) now(clock int64) int64 {
	return max(m.s.Clock, min(clock, most))
}

// end is a step's end, that goes well.
func (m *model) end(x result, clock int64) api.Errno {
	now := m.now(clock)
	m.want, m.replies = updater.Want{}, state.Slot{}
	if x.e == api.OK {
		m.s, m.want, m.replies = x.s, x.want, x.keep
	} else if x.empty > 0 {
		m.s.Slots[x.empty-1] = state.Slot{}
	}
	m.slots = x.stored
	m.s.Clock = now
	return x.e
}

func (m *model) begin(clock int64) api.Errno {
	x := result{s: m.s, stored: m.slots}
	m.rootWanted(&x, m.now(clock))
	return m.end(x, clock)
}

func (m *model) rootWanted(x *result, now int64) {
	t := m.trust(x.s)
	if len(x.s.Roots) == api.MaxRoots {
		m.timeWanted(x, now)
		return
	}
	x.want = updater.Want{Kind: 1, Version: t.Root.Version + 1}
}

func (m *model) timeWanted(x *result, now int64) {
	x.want = updater.Want{Kind: 2}
	x.e = roles.Fresh(m.trust(x.s), now)
}

func (m *model) step(reply []byte, clock int64) api.Errno {
	if m.want.Kind == 0 {
		return api.ErrOrder
	}
	x := result{s: m.s, stored: m.slots, keep: m.replies}
	now := m.now(clock)
	if len(reply) > m.c.Limit {
		x.e = api.ErrLong
		return m.end(x, clock)
	}
	t := m.trust(m.s)
	switch m.want.Kind {
	case 1:
		if len(reply) == 0 {
			m.timeWanted(&x, now)
		} else if _, x.e = roles.Rotate(t, reply); x.e == api.OK {
			x.s.Roots = append(append([][]byte{}, m.s.Roots...), reply)
			m.rootWanted(&x, now)
		}
	case 2:
		t, x.e = roles.Stamp(t, reply, now)
		x.s.Time, x.keep.Stamp = t.Time, reply
		x.want = updater.Want{Kind: 3, Version: t.Time.Snapshot.Version}
	case 3:
		t, x.e = roles.Snap(t, reply, now)
		x.s.Snap, x.keep.Snap = t.Snap, reply
		x.want = updater.Want{Kind: 4, Version: t.Snap.Targets.Version}
	case 4:
		if t, x.e = roles.Aim(t, reply, now); x.e == api.OK {
			m.aimed(&x, t.Aim, reply)
		}
	case 5:
		m.chunk(&x, reply)
	}
	return m.end(x, clock)
}

func like(a, b api.Targets) bool {
	return a.Size == b.Size && a.Chunk == b.Chunk && bytes.Equal(a.Root, b.Root)
}

func (m *model) aimed(x *result, aim api.Targets, reply []byte) {
	if aim.Size > int64(64*m.c.Room) {
		x.e = api.ErrSize
		return
	}
	slot := x.keep
	slot.Roots, slot.Aim = int64(len(x.s.Roots)), reply
	x.s.Aim, x.keep = aim, state.Slot{}
	other := 0
	if a := int(m.s.Active); a > 0 {
		if by, _ := m.by(m.s, a-1); like(by, aim) {
			slot.Map = m.s.Slots[a-1].Map
			x.s.Slots[a-1] = slot
			return
		}
		other = 2 - a
	}
	slot.Map = must(merkle.Empty(countOf(aim)))
	if by, ok := m.by(m.s, other); ok && like(by, aim) {
		slot.Map = m.s.Slots[other].Map
	}
	x.s.Slots[other] = slot
	m.looksOn(x, other)
}

func (m *model) looksOn(x *result, i int) {
	aim, _ := m.by(x.s, i)
	place := merkle.Missing(x.s.Slots[i].Map, countOf(aim))
	if place < countOf(aim) {
		x.want = updater.Want{Kind: 5, Version: aim.Version, Place: place}
		return
	}
	if x.e = m.holds(x.stored, i, aim); x.e != api.OK {
		x.empty = i + 1
		return
	}
	x.want, x.s.Active = updater.Want{}, int64(i+1)
}

func (m *model) chunk(x *result, reply []byte) {
	v, _, e := wire.Read(reply, wire.Limits{Bytes: api.MaxBytes, Deep: 3, Many: 64, Each: api.MaxChunk})
	if e != api.OK || v.Kind != api.VList || len(v.List) != 2 || v.List[0].Kind != api.VBytes || v.List[1].Kind != api.VList {
		x.e = api.ErrMeta
		return
	}
	var proof [][]byte
	for _, p := range v.List[1].List {
		if p.Kind != api.VBytes {
			x.e = api.ErrMeta
			return
		}
		proof = append(proof, p.Bytes)
	}
	other, b, place := 0, v.List[0].Bytes, m.want.Place
	if m.s.Active == 1 {
		other = 1
	}
	aim, _ := m.by(m.s, other)
	at := place * int(aim.Chunk)
	if len(b) != min(int(aim.Chunk), int(aim.Size)-at) {
		x.e = api.ErrSize
		return
	}
	if merkle.Check(aim.Root, countOf(aim), place, must(merkle.Leaf(place, b)), proof) != api.OK {
		x.e = api.ErrProof
		return
	}
	x.stored[other] = bytes.Clone(m.slots[other])
	copy(x.stored[other][at:], b)
	x.s.Slots[other].Map = must(merkle.Put(m.s.Slots[other].Map, countOf(aim), place))
	m.looksOn(x, other)
}

// status is what a Status answers at a reading of the clock.
func (m *model) status(clock int64) updater.Status {
	t, now := m.trust(m.s), m.now(clock)
	s := updater.Status{Versions: roles.Versions(t), Clock: now, Want: m.want}
	s.Stale = t.Time.Version == 0 || t.Time.Expires <= now || t.Root.Expires <= now
	if m.s.Active > 0 {
		by, _ := m.by(m.s, int(m.s.Active-1))
		s.Active = by.Version
	}
	return s
}
