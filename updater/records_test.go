package updater_test

import (
	"bytes"
	"testing"

	"imprimatur/api"
	"imprimatur/disk"
	"imprimatur/meta"
	"imprimatur/state"
	"imprimatur/updater"
)

// at is an updater on a new disk that wants something of a mirror for the first time.
func at(t *testing.T, m mirror, kind int) (*updater.Updater, *disk.Disk) {
	t.Helper()
	d := newDisk(sectors)
	u := boot(t, d)
	upTo(t, u, m, kind)
	return u, d
}

// P15.2: without anything that is wanted nothing is changed, whatever the reply.
func TestStepOutOfOrder(t *testing.T) {
	m := mirror{nil, usual(1, 5)}
	u, d := at(t, m, nothing)
	d.Set(0, nil) // a stroke would be seen
	check := func(u *updater.Updater, d *disk.Disk) {
		was, is := d.Bytes(), must(u.Status(0))
		for _, b := range [][]byte{nil, {1}, m.stampB, make([]byte, api.MaxMeta+1), make([]byte, 1<<20)} {
			for _, clock := range []int64{0, 5, most} {
				if e := u.Step(b, clock); e != api.ErrOrder {
					t.Errorf("Step: error %d", e)
				}
			}
		}
		if s := must(u.Status(0)); s != is || !bytes.Equal(was, d.Bytes()) {
			t.Errorf("a Step that was not wanted changes something: status %v, not %v", s, is)
		}
	}
	check(u, d)
	d = newDisk(sectors)
	check(boot(t, d), d)
}

// P15.2, P15.9: a reply of more bytes than the limit fails, whatever is wanted; one of as many is read.
func TestLimit(t *testing.T) {
	m := mirror{rootsBehind(1), edit(spec{2, 5, 1 << 40, 1000, bundleOf('a', 4)})}
	m.snap.Expires = most
	m.aim.Expires = lasts
	m.seal(2)
	var limits []int
	for _, w := range []updater.Want{{Kind: aRoot, Version: 2}, {Kind: aTimestamp}, {Kind: aSnapshot}, {Kind: aTargets}, {Kind: aChunk}} {
		limits = append(limits, len(m.answer(w))-1, len(m.answer(w)))
	}
	for _, limit := range append(limits, 1, api.MaxBytes) {
		c := config()
		c.Limit = limit
		d := newDisk(sectors)
		u := bootBy(t, d, c)
		begin(t, u, 0)
		for u.Want().Kind != nothing {
			reply := m.answer(u.Want())
			if len(reply) > limit {
				fails(t, "a reply that is too long", u, d, reply, 7, api.ErrLong)
			} else {
				step(t, u, m, 0)
			}
		}
	}
	for kind := aRoot; kind <= aChunk; kind++ {
		u, d := at(t, m, kind)
		fails(t, "a reply that is far too long", u, d, make([]byte, api.MaxMeta+1), 7, api.ErrLong)
	}
}

// P15.2: each root that comes is put behind the others, until none does.
func TestRoots(t *testing.T) {
	d := newDisk(sectors)
	u := boot(t, d)
	s := state.State{Clock: 3}
	begin(t, u, 3)
	for i := range api.MaxRoots {
		wants(t, "a root", u, aRoot, int64(i+2), 0)
		holding(t, "a root", d, s)
		b := rootBytes(i+2, lasts)
		if i == 4 {
			b = rootBytes(i+2, 0) // has expired: what is behind it has not
		}
		s.Clock = int64(2 * i)
		s.Clock = max(s.Clock, 3)
		done(t, u.Step(b, int64(2*i)))
		s.Roots = append(s.Roots, b)
	}
	wants(t, "as many roots as there may be", u, aTimestamp, 0, 0)
	holding(t, "as many roots as there may be", d, s)
	if v := must(u.Status(0)).Versions; v != [4]int64{17} {
		t.Errorf("versions %v", v)
	}
	m := mirror{s.Roots, usual(17, 5)}
	for u.Want().Kind != nothing {
		step(t, u, m, 0)
	}
	serves(t, "fetched", u, m.edition, 16)
	serves(t, "booted", boot(t, d), m.edition, 16)
}

// P15.2: roots that are not trusted next.
func TestRootsThatAreNot(t *testing.T) {
	m := mirror{rootsBehind(3), usual(2, 5)}
	half := func(versions ...int) []byte {
		return sealed(api.RRoot, must(meta.WriteRoot(rootOf(3, lasts))), versions...)
	}
	for what, c := range map[string]struct {
		reply []byte
		want  api.Errno
	}{
		"bytes that are no record":       {[]byte("root"), api.ErrMeta},
		"one byte 0":                     {[]byte{0}, api.ErrMeta},
		"a root that is cut off":         {m.roots[1][:100], api.ErrMeta},
		"a root with more behind":        {append(bytes.Clone(m.roots[1]), 0), api.ErrMeta},
		"another kind":                   {m.stampB, api.ErrMeta},
		"without the old root's seed":    {half(3), api.ErrThreshold},
		"without the new root's seed":    {half(2), api.ErrThreshold},
		"without any seed":               {half(), api.ErrThreshold},
		"the same root":                  {m.roots[0], api.ErrVersion},
		"the root behind the next one":   {m.roots[2], api.ErrThreshold},
		"another version, signed by all": {sealed(api.RRoot, must(meta.WriteRoot(rootOf(4, lasts))), 2, 3, 4), api.ErrVersion},
		"the same version":               {sealed(api.RRoot, must(meta.WriteRoot(rootOf(2, lasts))), 2), api.ErrVersion},
	} {
		u, d := at(t, m, aRoot)
		step(t, u, m, 0)
		wants(t, what, u, aRoot, 3, 0)
		fails(t, what, u, d, c.reply, 9, c.want)
		update(t, u, mirror{m.roots[:1], m.edition}, 0)
		serves(t, what+", behind it", u, m.edition, 1)
	}
}

// P15.2: no more roots: the last one must not have expired; the roots that came stay.
func TestNoMoreRoots(t *testing.T) {
	for _, c := range []struct {
		expires, clock int64
		want           api.Errno
	}{{0, 0, api.ErrExpired}, {1, 0, api.OK}, {9, 8, api.OK}, {9, 9, api.ErrExpired}, {9, most, api.ErrExpired}, {9, -1, api.OK}} {
		d := newDisk(sectors)
		u := boot(t, d)
		b := rootBytes(2, c.expires)
		begin(t, u, 0)
		done(t, u.Step(b, 0))
		s := state.State{Roots: [][]byte{b}, Clock: max(c.clock, 0)}
		if c.want != api.OK {
			fails(t, "a root that has expired", u, d, nil, c.clock, c.want)
		} else {
			done(t, u.Step([]byte{}, c.clock))
			wants(t, "no more roots", u, aTimestamp, 0, 0)
		}
		holding(t, "no more roots", d, s)
	}
}

// P15.2: a last root of as many as there may be that has expired is not kept: the step that it came with fails.
func TestTheLastRootHasExpired(t *testing.T) {
	s := state.State{Roots: rootsBehind(15)}
	d := diskOf(s)
	u := boot(t, d)
	begin(t, u, 0)
	wants(t, "the last root", u, aRoot, 17, 0)
	fails(t, "the last root", u, d, rootBytes(17, 6), 6, api.ErrExpired)
	begin(t, u, 0)
	wants(t, "the last root", u, aRoot, 17, 0)
	done(t, u.Step(rootBytes(17, 7), 6))
	wants(t, "the last root", u, aTimestamp, 0, 0)
}

// P15.2: the timestamp, the snapshot and the targets record, one behind the other.
func TestRecords(t *testing.T) {
	m := mirror{nil, usual(1, 5)}
	d := newDisk(sectors)
	u := boot(t, d)
	begin(t, u, 1)
	s := state.State{Clock: 2}
	done(t, u.Step(nil, 2))
	wants(t, "no more roots", u, aTimestamp, 0, 0)
	holding(t, "no more roots", d, s)

	done(t, u.Step(m.stampB, 3))
	wants(t, "a timestamp", u, aSnapshot, 15, 0)
	s.Time, s.Clock = m.time, 3
	holding(t, "a timestamp", d, s)

	done(t, u.Step(m.snapB, 1))
	wants(t, "a snapshot", u, aTargets, 5, 0)
	s.Snap = m.snap
	holding(t, "a snapshot", d, s)
	if st := must(u.Status(0)); st.Versions != [4]int64{1, 25, 15, 0} || st.Active != 0 {
		t.Errorf("status %v", st)
	}

	done(t, u.Step(m.aimB, 4))
	wants(t, "a targets record", u, aChunk, 5, 0)
	s.Aim, s.Clock = m.aim, 4
	s.Slots[0] = m.slot(0)
	holding(t, "a targets record", d, s)
	servesNothing(t, "a targets record", u)
}

// trustedBy is what an updater that trusts an edition is asked to trust.
type trustedBy struct {
	kind  int
	what  string
	reply []byte
	clock int64
	want  api.Errno
}

// P15.2, P15.9: records that are not trusted.
func TestRecordsThatAreNot(t *testing.T) {
	m := mirror{nil, usual(1, 5)}
	older, newer, strangers := usual(1, 4), usual(1, 6), usual(2, 5)
	expires := edit(spec{1, 5, 9, 1000, m.bundle})
	rolls := edit(spec{1, 5, lasts, 1000, m.bundle})
	rolls.time.Version = 30
	rolls.snap.Version = 14
	rolls.seal(1)
	for _, c := range []trustedBy{
		{aTimestamp, "no bytes", nil, 0, api.ErrMeta},
		{aTimestamp, "another kind", m.snapB, 0, api.ErrMeta},
		{aTimestamp, "spoilt", append(bytes.Clone(m.stampB), 0), 0, api.ErrMeta},
		{aTimestamp, "another one's", strangers.stampB, 0, api.ErrThreshold},
		{aTimestamp, "older", older.stampB, 0, api.ErrVersion},
		{aTimestamp, "of an older snapshot", rolls.stampB, 0, api.ErrVersion},
		{aTimestamp, "another one of the same version", expires.stampB, 0, api.ErrVersion},
		{aTimestamp, "the root has expired", newer.stampB, lasts, api.ErrExpired},
		{aTimestamp, "the root has expired, no bytes", nil, lasts, api.ErrExpired},
		{aSnapshot, "no bytes", nil, 0, api.ErrSize},
		{aSnapshot, "another size", m.snapB[:len(m.snapB)-1], 0, api.ErrSize},
		{aSnapshot, "another one", spoilt(m.snapB), 0, api.ErrHash},
		{aSnapshot, "another one's", strangers.snapB, 0, api.ErrHash},
		{aSnapshot, "the root has expired", m.snapB, lasts, api.ErrExpired},
		{aTargets, "no bytes", nil, 0, api.ErrSize},
		{aTargets, "another size", append(bytes.Clone(m.aimB), 0), 0, api.ErrSize},
		{aTargets, "another one", spoilt(m.aimB), 0, api.ErrHash},
		{aTargets, "older", older.aimB, 0, api.ErrHash},
		{aTargets, "the root has expired", m.aimB, lasts, api.ErrExpired},
	} {
		d := newDisk(sectors)
		u := boot(t, d)
		update(t, u, m, 0)
		upTo(t, u, m, c.kind)
		fails(t, c.what, u, d, c.reply, c.clock, c.want)
		serves(t, c.what, u, m.edition, 0)
		if c.clock == 0 {
			update(t, u, mirror{nil, newer}, 0)
			serves(t, c.what+", behind it", u, newer, 0)
		}
	}
}

// P15.2: records expire when they say so.
func TestRecordsExpire(t *testing.T) {
	expires := []int64{20, 30, 40}
	m := mirror{nil, usual(1, 5)}
	m.time.Expires, m.snap.Expires, m.aim.Expires = expires[0], expires[1], expires[2]
	m.seal(1)
	for kind := aTimestamp; kind <= aTargets; kind++ {
		when := expires[kind-aTimestamp]
		for _, clock := range []int64{when, when + 1, most} {
			u, d := at(t, m, kind)
			fails(t, "a record that has expired", u, d, m.answer(u.Want()), clock, api.ErrExpired)
		}
		u, _ := at(t, m, kind)
		done(t, u.Step(m.answer(u.Want()), when-1))
	}
	// A chunk does not expire.
	u, _ := at(t, m, aChunk)
	for u.Want().Kind == aChunk {
		step(t, u, m, most)
	}
	serves(t, "fetched", u, m.edition, 0)
}

// P15.2: records that lead nowhere, though they are signed.
func TestRecordsThatLeadNowhere(t *testing.T) {
	wrong := func(change func(e *edition)) *edition {
		e := usual(1, 5)
		change(e)
		e.stampB = sealed(api.RTimestamp, must(meta.WriteTimestamp(e.time)), 1)
		return e
	}
	e := wrong(func(e *edition) { e.time.Snapshot.Version = 77 })
	u, d := at(t, mirror{nil, e}, aSnapshot)
	wants(t, "the snapshot of another version", u, aSnapshot, 77, 0)
	fails(t, "the snapshot of another version", u, d, e.snapB, 0, api.ErrVersion)
	e = wrong(func(e *edition) {
		e.snap.Targets.Version = 77
		e.snapB = sealed(api.RSnapshot, must(meta.WriteSnapshot(e.snap)), 1)
		e.time.Snapshot = refOf(e.snap.Version, e.snapB)
	})
	u, d = at(t, mirror{nil, e}, aTargets)
	wants(t, "the targets record of another version", u, aTargets, 77, 0)
	fails(t, "the targets record of another version", u, d, e.aimB, 0, api.ErrVersion)
	e = wrong(func(e *edition) { e.time.Snapshot = refOf(e.snap.Version, e.aimB) })
	u, d = at(t, mirror{nil, e}, aSnapshot)
	fails(t, "a targets record for the snapshot", u, d, e.aimB, 0, api.ErrMeta)
	e = wrong(func(e *edition) {
		e.snapB = sealed(api.RSnapshot, must(meta.WriteSnapshot(e.snap)), 2)
		e.time.Snapshot = refOf(e.snap.Version, e.snapB)
	})
	u, d = at(t, mirror{nil, e}, aSnapshot)
	fails(t, "a stranger's snapshot", u, d, e.snapB, 0, api.ErrThreshold)
}

// P15.2: a bundle must have room in a slot.
func TestRoom(t *testing.T) {
	for _, more := range []int{-1, 0, 1, 64, 10000} {
		m := mirror{nil, edit(spec{1, 5, lasts, 1000, make([]byte, 64*room+more)})}
		u, d := at(t, m, aTargets)
		if more > 0 {
			fails(t, "a bundle that is too long", u, d, m.aimB, 8, api.ErrSize)
			continue
		}
		step(t, u, m, 8)
		wants(t, "a bundle that is not", u, aChunk, 5, 0)
	}
}

// pair are the bundles of two slots: of this slot, and of the other one.
func pair(slot int, b, other []byte) [][]byte {
	if slot == 0 {
		return [][]byte{b, other}
	}
	return [][]byte{other, b}
}

// P15.2: a record that is alike that of the active slot leads there; nothing is to be fetched.
func TestAlikeTheActiveOne(t *testing.T) {
	m := mirror{rootsBehind(1), usual(1, 5)}
	for _, active := range []int{0, 1} {
		s := state.State{Active: int64(active + 1)}
		s.Slots[active] = m.full(0)
		s.Slots[1-active] = usual(1, 3).slot(0, 1)
		d := diskOf(s, pair(active, m.bundle, nil)...)
		u := boot(t, d)
		for version := int64(6); version < 9; version++ {
			e := edit(spec{2, version, lasts, 1000, m.bundle})
			if n := update(t, u, mirror{m.roots, e}, version); n > 5 {
				t.Errorf("%d steps", n)
			}
			serves(t, "alike", u, e, 1)
			s.Roots, s.Time, s.Snap, s.Aim, s.Clock = m.roots, e.time, e.snap, e.aim, version
			s.Slots[active] = e.full(1)
			holding(t, "alike", d, s)
			serves(t, "alike, booted", boot(t, d), e, 1)
		}
	}
}

// unlike are editions of a version that are not alike one, each by one thing.
func unlike(version int64, e *edition) []*edition {
	b := e.bundle
	size, chunk := edit(spec{1, version, lasts, 1000, b}), edit(spec{1, version, lasts, 1000, b})
	size.aim.Size--
	size.seal(1)
	chunk.aim.Chunk++
	chunk.seal(1)
	return []*edition{
		size,
		chunk,
		edit(spec{1, version, lasts, 999, b}),
		edit(spec{1, version, lasts, 1000, b[:len(b)-1]}),
		edit(spec{1, version, lasts, 1000, append(bytes.Clone(b), 0)}),
		edit(spec{1, version, lasts, 1000, spoilt(b)}),
	}
}

// P15.2: a record that is not alike that of the active slot leads to the other one, to an empty map.
func TestUnlikeTheActiveOne(t *testing.T) {
	x := usual(1, 5)
	for _, active := range []int{0, 1} {
		for _, e := range unlike(6, x) {
			s := state.State{Active: int64(active + 1)}
			s.Slots[active] = x.full(0)
			s.Slots[1-active] = usual(1, 3).slot(0, 1)
			d := diskOf(s, pair(active, x.bundle, nil)...)
			u := boot(t, d)
			upTo(t, u, mirror{nil, e}, aChunk)
			wants(t, "unlike", u, aChunk, 6, 0)
			s.Slots[1-active] = e.slot(0)
			s.Time, s.Snap, s.Aim = e.time, e.snap, e.aim
			holding(t, "unlike", d, s)
			serves(t, "unlike", u, x, 0)
		}
	}
}

// P15.2: a record that is alike that of the slot that is filled goes on with what is there; of none active it is the slot 0.
func TestAlikeTheOtherOne(t *testing.T) {
	x, y := usual(1, 5), usual(1, 4)
	next := edit(spec{1, 6, lasts, 1000, x.bundle})
	for active := range int64(3) {
		filled := 0
		if active == 1 {
			filled = 1
		}
		for _, there := range [][]int{nil, {0}, {1}, {0, 1}, {0, 1, 3, 4}, {1, 2, 3, 4}} {
			s := state.State{Active: active}
			s.Slots[filled] = x.slot(0, there...)
			if active > 0 {
				s.Slots[1-filled] = y.full(0)
			}
			d := diskOf(s, pair(filled, x.bundle, y.bundle)...)
			u := boot(t, d)
			upTo(t, u, mirror{nil, next}, aChunk)
			first := 0
			for i := range there {
				if there[i] == first {
					first++
				}
			}
			wants(t, "alike", u, aChunk, 6, first)
			s.Slots[filled] = next.slot(0, there...)
			s.Time, s.Snap, s.Aim = next.time, next.snap, next.aim
			holding(t, "alike", d, s)
			for u.Want().Kind == aChunk {
				step(t, u, mirror{nil, next}, 0)
			}
			serves(t, "alike", u, next, 0)
		}
	}
}

// P15.2: a slot that has it all, and is alike, is active at once; if its bytes are others, the step fails, and it is empty.
func TestAlikeAndWhole(t *testing.T) {
	x, y := usual(1, 5), usual(1, 4)
	next := edit(spec{1, 6, lasts, 1000, x.bundle})
	for _, active := range []int{0, 1} {
		for _, rotten := range []bool{false, true} {
			s := state.State{Active: int64(active + 1), Time: y.time, Snap: y.snap, Aim: y.aim}
			s.Slots[active], s.Slots[1-active] = y.full(0), x.full(0)
			other := x.bundle
			if rotten {
				other = spoilt(x.bundle)
			}
			d := diskOf(s, pair(active, y.bundle, other)...)
			u := boot(t, d)
			upTo(t, u, mirror{nil, next}, aTargets)
			want := stored(t, d)
			want.Clock = 9
			if !rotten {
				step(t, u, mirror{nil, next}, 9)
				wants(t, "it has it all", u, nothing, 0, 0)
				serves(t, "it has it all", u, next, 0)
				want.Aim, want.Active = next.aim, int64(2-active)
				want.Slots[1-active] = next.full(0)
				holding(t, "it has it all", d, want)
				continue
			}
			if e := u.Step(next.aimB, 9); e != api.ErrHash {
				t.Errorf("it has other bytes: error %d", e)
			}
			wants(t, "it has other bytes", u, nothing, 0, 0)
			serves(t, "it has other bytes", u, y, 0)
			want.Slots[1-active] = state.Slot{}
			holding(t, "it has other bytes", d, want)
			if n := update(t, u, mirror{nil, next}, 0); n != 4+next.count() {
				t.Errorf("%d steps", n)
			}
			serves(t, "one update more", u, next, 0)
		}
	}
}
