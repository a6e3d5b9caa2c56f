package state_test

import (
	"bytes"
	"math"
	"slices"
	"testing"

	"imprimatur/api"
	"imprimatur/meta"
	"imprimatur/roles"
	"imprimatur/state"
)

// chains tells of a Chain that answers other trusts.
func chains(t *testing.T, what string, pin []byte, l [][]byte, want []roles.Trust) {
	t.Helper()
	if got, e := state.Chain(pin, l); e != api.OK || told(got) != told(want) {
		t.Errorf("%s: Chain: %d trusts and error %d, not %d", what, len(got), e, len(want))
	}
}

// wrongPins are bytes that no root is pinned by, and why.
func wrongPins() map[string]api.Errno {
	root := must(meta.WriteRoot(rootOf(1)))
	need := rootOf(1)
	need.Roles[api.RRoot].Keys = append(need.Roles[api.RRoot].Keys, private(9, 0)[32:])
	slices.SortFunc(need.Roles[api.RRoot].Keys, bytes.Compare)
	need.Roles[api.RRoot].Need = 2
	return map[string]api.Errno{
		"":                         api.ErrMeta,
		"pin":                      api.ErrMeta,
		string(root):               api.ErrMeta,
		string(pin()[1:]):          api.ErrMeta,
		string(append(pin(), 0)):   api.ErrMeta,
		string(sealed(1, root, 1)): api.ErrMeta,
		string(sealed(0, root, 2)): api.ErrThreshold,
		string(sealed(0, root)):    api.ErrThreshold,
		string(sealed(0, must(meta.WriteRoot(need)), 1)): api.ErrThreshold,
	}
}

// P14.2
func TestChain(t *testing.T) {
	for _, n := range []int{0, 1, 2, 3, 16, 17, 40} {
		chains(t, "roots that are trusted", pin(), rootsBehind(n), chainOf(n))
	}
	chains(t, "a list without roots", pin(), [][]byte{}, chainOf(0))
	// From a root of the midst on.
	chains(t, "another pin", rootBytes(3), rootsBehind(5)[2:], chainOf(5)[2:])
	chains(t, "a pin that is behind the roots", rootBytes(3), rootsBehind(5), chainOf(2)[2:])
}

// P14.2
func TestChainRefuses(t *testing.T) {
	for b, want := range wrongPins() {
		for _, l := range [][][]byte{nil, rootsBehind(2), {nil}} {
			if got, e := state.Chain([]byte(b), l); e != want || len(got) > 0 {
				t.Errorf("Chain: %d trusts and error %d, not %d", len(got), e, want)
			}
		}
	}
}

// P14.2: up to the first root that is not trusted, wherever it stands, and whatever stands behind it.
func TestChainEndsAtWhatIsNotTrusted(t *testing.T) {
	const n = 5
	for i := range n {
		version := i + 2
		body := must(meta.WriteRoot(rootOf(version)))
		later := rootOf(version)
		later.Version++
		for what, b := range map[string][]byte{
			"no bytes":               nil,
			"no root":                []byte("root"),
			"a spoilt root":          spoilt(rootBytes(version)),
			"a root that is cut off": rootBytes(version)[:99],
			"another kind":           sealed(api.RTargets, body, version-1, version),
			"signed by the old one":  sealed(api.RRoot, body, version-1),
			"signed by itself":       sealed(api.RRoot, body, version),
			"signed by nobody":       sealed(api.RRoot, body),
			"signed by others":       sealed(api.RRoot, body, version-1, version+1),
			"the root again":         rootBytes(version - 1),
			"the root behind":        rootBytes(version + 1),
			"another version":        sealed(api.RRoot, must(meta.WriteRoot(later)), version-1, version),
		} {
			l := rootsBehind(n)
			l[i] = b
			chains(t, what, pin(), l, chainOf(i))
			chains(t, what+", put between", pin(), slices.Insert(rootsBehind(n), i, b), chainOf(i))
		}
		chains(t, "one is left out", pin(), slices.Delete(rootsBehind(n), i, i+1), chainOf(i))
	}
}

// leads tells of a Lead that answers another record, or an error.
func leads(t *testing.T, what string, trust roles.Trust, s state.Slot, want api.Targets) {
	t.Helper()
	if got, e := state.Lead(trust, s); e != api.OK || told(got) != told(want) {
		t.Errorf("%s: Lead: %v and error %d, not %v", what, got, e, want)
	}
}

// failsToLead tells of a Lead that answers otherwise than with an error.
func failsToLead(t *testing.T, what string, trust roles.Trust, s state.Slot, want api.Errno) {
	t.Helper()
	if got, e := state.Lead(trust, s); e != want || told(got) != told(api.Targets{}) {
		t.Errorf("%s: Lead: %v and error %d, not %d", what, got, e, want)
	}
}

// P14.2
func TestLead(t *testing.T) {
	for version := 1; version < 4; version++ {
		s, aim := slotOf(version, 1000, 64)
		leads(t, "a slot", chainOf(3)[version-1], s, aim)
		for i, trust := range chainOf(3) {
			if i != version-1 {
				failsToLead(t, "another root", trust, s, api.ErrThreshold)
			}
		}
		// Neither its roots nor its map play a part.
		for _, n := range append(ends, 0, 1) {
			s.Roots, s.Map = n, filler(int(n&3), 255)
			leads(t, "other roots and another map", chainOf(3)[version-1], s, aim)
		}
	}
	failsToLead(t, "an empty slot", chainOf(0)[0], state.Slot{}, api.ErrMeta)
}

// P14.2: at the time -1, at which nothing has expired: neither a root nor a record.
func TestNothingHasExpired(t *testing.T) {
	for _, expires := range []int64{0, 1, 1000, most} {
		p := pathOf(1, 100, 64)
		p.time.Expires, p.snap.Expires, p.aim.Expires = expires, expires, expires
		s := p.slot()
		trust := chainOf(0)[0]
		trust.Root.Expires = expires
		leads(t, "a slot", trust, s, p.aim)
	}
	s, _ := slotOf(1, 100, 64)
	for _, expires := range []int64{-1, -2, math.MinInt64} { // no root says so, but a trust that is handed in may
		trust := chainOf(0)[0]
		trust.Root.Expires = expires
		failsToLead(t, "a root that has expired ahead of all times", trust, s, api.ErrExpired)
		failsToLead(t, "that root, and no records", trust, state.Slot{}, api.ErrExpired)
	}
}

// P14.2: from the trust in its root alone on: what else was trusted plays no part, however high its version.
func TestLeadFromTheRootAlone(t *testing.T) {
	s, aim := slotOf(1, 100, 64)
	trust := chainOf(0)[0]
	trust.Time = api.Timestamp{Version: most, Expires: most, Snapshot: api.Ref{Version: most, Size: 1, Hash: filler(32, 3)}}
	leads(t, "a later timestamp", trust, s, aim)
	trust.Snap = api.Snapshot{Version: most, Expires: most, Targets: api.Ref{Version: most, Size: 1, Hash: filler(32, 3)}}
	leads(t, "a later snapshot", trust, s, aim)
	trust.Aim = api.Targets{Version: most, Expires: most, Size: 7, Chunk: 64, Root: filler(32, 3)}
	leads(t, "a later targets record", trust, s, aim)
	failsToLead(t, "no records, but trusted ones", trust, state.Slot{}, api.ErrMeta)
	s.Snap = nil
	failsToLead(t, "no snapshot, but a trusted one", trust, s, api.ErrSize)
}

// wrongPath is a slot whose records do not lead on, and the first error.
type wrongPath struct {
	what string
	slot state.Slot
	want api.Errno
}

// wrongPaths are some from the pinned root on. Each of them has one wrong record, but where it says otherwise.
func wrongPaths() []wrongPath {
	right, _ := slotOf(1, 1000, 64)
	var l []wrongPath
	add := func(what string, want api.Errno, do func(s *state.Slot)) {
		s := copyOfSlot(right)
		do(&s)
		l = append(l, wrongPath{what, s, want})
	}
	add("no stamp", api.ErrMeta, func(s *state.Slot) { s.Stamp = nil })
	add("a stamp that is none", api.ErrMeta, func(s *state.Slot) { s.Stamp = []byte("stamp") })
	add("a stamp that goes on", api.ErrMeta, func(s *state.Slot) { s.Stamp = append(s.Stamp, 0) })
	add("a stamp of another kind", api.ErrMeta, func(s *state.Slot) { s.Stamp = s.Snap })
	add("a stamp of another signer", api.ErrThreshold, func(s *state.Slot) {
		signed := must(meta.ReadSigned(s.Stamp))
		s.Stamp = sealed(api.RTimestamp, signed.Body, 2)
	})
	add("no snap", api.ErrSize, func(s *state.Slot) { s.Snap = nil })
	add("a snap that goes on", api.ErrSize, func(s *state.Slot) { s.Snap = append(s.Snap, 0) })
	add("a spoilt snap", api.ErrHash, func(s *state.Slot) { s.Snap = spoilt(s.Snap) })
	add("no aim", api.ErrSize, func(s *state.Slot) { s.Aim = nil })
	add("an aim that is cut off", api.ErrSize, func(s *state.Slot) { s.Aim = s.Aim[1:] })
	add("a spoilt aim", api.ErrHash, func(s *state.Slot) { s.Aim = spoilt(s.Aim) })
	add("all are wrong", api.ErrMeta, func(s *state.Slot) { s.Stamp, s.Snap, s.Aim = nil, nil, nil })
	add("snap and aim are wrong", api.ErrHash, func(s *state.Slot) { s.Snap, s.Aim = spoilt(s.Snap), nil })
	add("snap and aim are wrong, otherwise", api.ErrSize, func(s *state.Slot) { s.Snap, s.Aim = nil, spoilt(s.Aim) })
	return append(l, wrongRefs()...)
}

// wrongRefs are those whose records refer to others than they have: what is referred to is there, but not right.
func wrongRefs() []wrongPath {
	p := pathOf(1, 1000, 64)
	s := p.slot()
	snap, aim := must(meta.WriteSnapshot(p.snap)), must(meta.WriteTargets(p.aim))
	stamped := func(version int64, b []byte) state.Slot {
		r := api.Timestamp{Version: 3, Snapshot: refOf(version, b)}
		return state.Slot{Stamp: sealed(api.RTimestamp, must(meta.WriteTimestamp(r)), 1), Snap: b, Aim: s.Aim}
	}
	aimed := func(version int64, b []byte) state.Slot {
		r := api.Snapshot{Version: 4, Targets: refOf(version, b)}
		x := stamped(4, sealed(api.RSnapshot, must(meta.WriteSnapshot(r)), 1))
		x.Aim = b
		return x
	}
	return []wrongPath{
		{"no snapshot's bytes", stamped(4, []byte("snap")), api.ErrMeta},
		{"a snapshot of another kind", stamped(4, sealed(api.RTimestamp, snap, 1)), api.ErrMeta},
		{"a snapshot of another signer", stamped(4, sealed(api.RSnapshot, snap, 2)), api.ErrThreshold},
		{"a snapshot of another version", stamped(5, s.Snap), api.ErrVersion},
		{"no targets record's bytes", aimed(5, []byte("aim")), api.ErrMeta},
		{"a targets record of another kind", aimed(5, sealed(api.RSnapshot, aim, 1)), api.ErrMeta},
		{"a targets record of another signer", aimed(5, sealed(api.RTargets, aim, 3)), api.ErrThreshold},
		{"a targets record of another version", aimed(6, s.Aim), api.ErrVersion},
		{"a targets record of an older version", aimed(4, s.Aim), api.ErrVersion},
	}
}

// P14.2: the first error of what leads.
func TestLeadRefuses(t *testing.T) {
	for _, p := range wrongPaths() {
		failsToLead(t, p.what, chainOf(0)[0], p.slot, p.want)
	}
}

// proves tells of a Prove that does not prove a slot by a record.
func proves(t *testing.T, what string, l []roles.Trust, s state.Slot, want api.Targets) {
	t.Helper()
	if got, ok := state.Prove(l, s); !ok || told(got) != told(want) {
		t.Errorf("%s: Prove: %v, %v, not %v", what, got, ok, want)
	}
}

// failsToProve tells of a Prove that proves a slot, or has something beside.
func failsToProve(t *testing.T, what string, l []roles.Trust, s state.Slot) {
	t.Helper()
	if got, ok := state.Prove(l, s); ok || told(got) != told(api.Targets{}) {
		t.Errorf("%s: Prove: %v, %v", what, got, ok)
	}
}

// P14.2
func TestProve(t *testing.T) {
	l := chainOf(3)
	for version := 1; version <= 4; version++ {
		s, aim := slotOf(version, 1000, 64)
		proves(t, "a slot", l, s, aim)
		proves(t, "just so many trusts", l[:version], s, aim)
		failsToProve(t, "one trust too few", l[:version-1], s)
		for n := range int64(5) {
			if s.Roots = n; n != int64(version-1) {
				failsToProve(t, "other roots", l, s)
			}
		}
		for _, n := range append(ends, 1<<32+int64(version-1), 4, 5) {
			s.Roots = n
			failsToProve(t, "roots of no trust", l, s)
		}
	}
	for _, p := range wrongPaths() {
		p.slot.Map = make([]byte, 2)
		failsToProve(t, p.what, l, p.slot)
	}
	for _, s := range []state.Slot{{}, {Roots: 1}, {Map: make([]byte, 2)}} {
		failsToProve(t, "no records", l, s)
		failsToProve(t, "no trusts", nil, s)
		failsToProve(t, "a trust in nothing", []roles.Trust{{}}, s)
	}
}

// P14.2: only a slot's root plays a part of its trust; of the others nothing.
func TestProveByItsRootAlone(t *testing.T) {
	s, aim := slotOf(2, 1000, 64)
	l := []roles.Trust{{}, {Root: rootOf(2), Time: api.Timestamp{Version: most}, Snap: api.Snapshot{Version: most}, Aim: api.Targets{Version: most}}, {}}
	proves(t, "a slot", l, s, aim)
}

// P14.2: a map is right for the number of the record's chunks.
func TestProveWithMaps(t *testing.T) {
	l := chainOf(0)
	for _, c := range []struct{ size, chunk, n int64 }{
		{1, 64, 1}, {64, 64, 1}, {65, 64, 2}, {448, 64, 7}, {449, 64, 8}, {512, 64, 8}, {513, 64, 9}, {513, 65, 8}, {1024, 1024, 1}, {1025, 1024, 2}, {1 << 17, 1024, 128}, {1 << 17, 64, 2048},
	} {
		s, aim := slotOf(1, c.size, c.chunk)
		for n := range c.n {
			s.Map[n/8] |= 1 << (n % 8)
			if n < 20 || n == c.n-1 {
				proves(t, "a map", l, s, aim)
			}
		}
		for n := c.n; n < 8*int64(len(s.Map)); n++ {
			s.Map[n/8] ^= 1 << (n % 8)
			failsToProve(t, "a map with a place above", l, s)
			s.Map[n/8] ^= 1 << (n % 8)
		}
		s.Map = append(s.Map, 0)
		failsToProve(t, "a map of a byte too many", l, s)
		s.Map = s.Map[:len(s.Map)-2]
		failsToProve(t, "a map of a byte too few", l, s)
		s.Map = nil
		failsToProve(t, "no map", l, s)
	}
}
