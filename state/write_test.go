package state_test

import (
	"bytes"
	"math"
	"slices"
	"testing"

	"imprimatur/api"
	"imprimatur/state"
)

// Values' bytes, built without the program.

func count(n uint64) []byte {
	if n < 192 {
		return []byte{byte(n)}
	}
	var b []byte
	for ; n > 0; n >>= 8 {
		b = append([]byte{byte(n)}, b...)
	}
	return append([]byte{191 + byte(len(b))}, b...)
}

func num(n uint64) []byte {
	return append([]byte{1}, count(n)...)
}

func piece(b []byte) []byte {
	return slices.Concat([]byte{2}, count(uint64(len(b))), b)
}

func list(l ...[]byte) []byte {
	return slices.Concat([]byte{3}, count(uint64(len(l))), slices.Concat(l...))
}

// piecesOf is the list of bytes.
func piecesOf(l [][]byte) []byte {
	var made [][]byte
	for _, b := range l {
		made = append(made, piece(b))
	}
	return list(made...)
}

func ref(r api.Ref) []byte {
	return list(num(uint64(r.Version)), num(uint64(r.Size)), piece(r.Hash))
}

// timeBytes, snapBytes and aimBytes are a record's; no byte for none.
func timeBytes(r api.Timestamp) []byte {
	if r.Version == 0 {
		return nil
	}
	return list(num(uint64(r.Version)), num(uint64(r.Expires)), ref(r.Snapshot))
}

func snapBytes(r api.Snapshot) []byte {
	return timeBytes(api.Timestamp{Version: r.Version, Expires: r.Expires, Snapshot: r.Targets})
}

func aimBytes(r api.Targets) []byte {
	if r.Version == 0 {
		return nil
	}
	return list(num(uint64(r.Version)), num(uint64(r.Expires)), num(uint64(r.Size)), num(uint64(r.Chunk)), piece(r.Root))
}

// slotParts and partsOf are the values of which the lists of a slot and of a state are.
func slotParts(s state.Slot) [][]byte {
	return [][]byte{num(uint64(s.Roots)), piece(s.Stamp), piece(s.Snap), piece(s.Aim), piece(s.Map)}
}

func partsOf(s state.State) [][]byte {
	return [][]byte{
		piecesOf(s.Roots), piece(timeBytes(s.Time)), piece(snapBytes(s.Snap)), piece(aimBytes(s.Aim)), num(uint64(s.Clock)), num(uint64(s.Active)),
		list(list(slotParts(s.Slots[0])...), list(slotParts(s.Slots[1])...)),
	}
}

func bytesOf(s state.State) []byte {
	return list(partsOf(s)...)
}

// full is a state with something in all its parts, for which nobody need sign: it is asked for its form alone.
func full() state.State {
	return state.State{
		Roots:  [][]byte{{7}, {8, 9}, filler(200, 1)},
		Time:   api.Timestamp{Version: 1, Expires: 2, Snapshot: api.Ref{Version: 3, Size: 4, Hash: filler(32, 5)}},
		Snap:   api.Snapshot{Version: 6, Expires: 7, Targets: api.Ref{Version: 8, Size: 9, Hash: filler(32, 10)}},
		Aim:    api.Targets{Version: 11, Expires: 12, Size: 13, Chunk: 64, Root: filler(32, 14)},
		Clock:  15,
		Active: 1,
		Slots: [2]state.Slot{
			{Roots: 2, Stamp: []byte{16}, Snap: []byte{17}, Aim: []byte{18, 19}, Map: []byte{20}},
			{Roots: 0, Stamp: filler(300, 21), Snap: []byte{22}, Aim: []byte{23}, Map: filler(3, 24)},
		},
	}
}

// change is a full state with a change, in words.
type change struct {
	what string
	do   func(s *state.State)
}

func (c change) made() state.State {
	s := full()
	c.do(&s)
	return s
}

// rightChanges leave a state right: each at an edge that the chapter names.
func rightChanges() []change {
	l := []change{
		{"nothing", func(*state.State) {}},
		{"all is empty", func(s *state.State) { *s = state.State{} }},
		{"empty, but not nil", func(s *state.State) {
			*s = state.State{Roots: [][]byte{}, Clock: 1}
			s.Time.Snapshot.Hash, s.Snap.Targets.Hash, s.Aim.Root = []byte{}, []byte{}, []byte{}
			s.Slots[0] = state.Slot{Stamp: []byte{}, Snap: []byte{}, Aim: []byte{}, Map: []byte{}}
		}},
		{"only a clock", func(s *state.State) { *s = state.State{Clock: 7} }},
		{"no roots", func(s *state.State) { s.Roots, s.Slots[0] = nil, state.Slot{} }},
		{"no roots, slots by none", func(s *state.State) { s.Roots, s.Slots[0].Roots = nil, 0 }},
		{"16 roots", func(s *state.State) { s.Roots = slices.Repeat([][]byte{{1}}, 16) }},
		{"a root of 8192 bytes", func(s *state.State) { s.Roots[1] = filler(8192, 1) }},
		{"a clock of 0", func(s *state.State) { s.Clock = 0 }},
		{"the greatest clock", func(s *state.State) { s.Clock = most }},
		{"no active slot", func(s *state.State) { s.Active = 0 }},
		{"the slot 1 is active", func(s *state.State) { s.Active = 2 }},
		{"an active slot that is empty", func(s *state.State) { s.Slots[0] = state.Slot{} }},
		{"no timestamp", func(s *state.State) { s.Time = api.Timestamp{} }},
		{"no snapshot", func(s *state.State) { s.Snap = api.Snapshot{} }},
		{"no targets record", func(s *state.State) { s.Aim = api.Targets{} }},
		{"the greatest timestamp", func(s *state.State) {
			s.Time = api.Timestamp{Version: most, Expires: most, Snapshot: api.Ref{Version: most, Size: most, Hash: filler(32, 255)}}
		}},
		{"the least snapshot", func(s *state.State) {
			s.Snap = api.Snapshot{Version: 1, Targets: api.Ref{Version: 1, Hash: filler(32, 0)}}
		}},
		{"the least targets record", func(s *state.State) {
			s.Aim = api.Targets{Version: 1, Size: 1, Chunk: 64, Root: filler(32, 0)}
		}},
		{"the greatest targets record", func(s *state.State) {
			s.Aim = api.Targets{Version: most, Expires: most, Size: 1 << 17, Chunk: 1024, Root: filler(32, 0)}
		}},
	}
	return append(l, rightSlots()...)
}

// rightSlots are those of them in a slot.
func rightSlots() []change {
	var l []change
	for i := range 2 {
		l = append(l,
			change{"an empty slot", func(s *state.State) { s.Slots[i] = state.Slot{} }},
			change{"a slot by all roots", func(s *state.State) { s.Slots[i].Roots = 3 }},
			change{"a slot by none", func(s *state.State) { s.Slots[i].Roots = 0 }},
			change{"a stamp of 8192 bytes", func(s *state.State) { s.Slots[i].Stamp = filler(8192, 1) }},
			change{"a snap of 8192 bytes", func(s *state.State) { s.Slots[i].Snap = filler(8192, 1) }},
			change{"an aim of 8192 bytes", func(s *state.State) { s.Slots[i].Aim = filler(8192, 1) }},
			change{"no map", func(s *state.State) { s.Slots[i].Map = nil }},
			change{"the greatest map", func(s *state.State) { s.Slots[i].Map = filler(512, 255) }},
		)
	}
	return l
}

// wrongChanges make a state wrong, each by one thing.
func wrongChanges() []change {
	l := []change{
		{"17 roots", func(s *state.State) { s.Roots = slices.Repeat([][]byte{{1}}, 17) }},
		{"a root of no bytes", func(s *state.State) { s.Roots[1] = []byte{} }},
		{"a nil root", func(s *state.State) { s.Roots[2] = nil }},
		{"a root of 8193 bytes", func(s *state.State) { s.Roots[0] = filler(8193, 1) }},
		{"the slot 0 by more roots than there are", func(s *state.State) { s.Roots = s.Roots[:1] }},
		{"an active slot 3", func(s *state.State) { s.Active = 3 }},
	}
	for _, n := range ends {
		l = append(l,
			change{"a clock out of bounds", func(s *state.State) { s.Clock = n }},
			change{"an active slot out of bounds", func(s *state.State) { s.Active = n }},
			change{"the version of a timestamp", func(s *state.State) { s.Time.Version = n }},
			change{"a timestamp's end", func(s *state.State) { s.Time.Expires = n }},
			change{"the size in a timestamp", func(s *state.State) { s.Time.Snapshot.Size = n }},
			change{"the version in a snapshot", func(s *state.State) { s.Snap.Targets.Version = n }},
			change{"a targets record's end", func(s *state.State) { s.Aim.Expires = n }},
			change{"a targets record's size", func(s *state.State) { s.Aim.Size = n }},
		)
	}
	return slices.Concat(l, wrongRecords(), wrongSlots())
}

// wrongRecords are those of them in a record: one that is not right, and one that is none but for one part.
func wrongRecords() []change {
	return []change{
		{"a timestamp without its version", func(s *state.State) { s.Time.Version = 0 }},
		{"a timestamp's end alone", func(s *state.State) { s.Time = api.Timestamp{Expires: 1} }},
		{"a timestamp's version alone", func(s *state.State) { s.Time = api.Timestamp{Version: 1} }},
		{"a snapshot's version in no timestamp", func(s *state.State) { s.Time = api.Timestamp{Snapshot: api.Ref{Version: 1}} }},
		{"a snapshot's size in no timestamp", func(s *state.State) { s.Time = api.Timestamp{Snapshot: api.Ref{Size: 1}} }},
		{"a snapshot's digest in no timestamp", func(s *state.State) { s.Time = api.Timestamp{Snapshot: api.Ref{Hash: []byte{0}}} }},
		{"a timestamp of a digest that is too short", func(s *state.State) { s.Time.Snapshot.Hash = filler(31, 1) }},
		{"a timestamp of a digest that is too long", func(s *state.State) { s.Time.Snapshot.Hash = filler(33, 1) }},
		{"a snapshot without its version", func(s *state.State) { s.Snap.Version = 0 }},
		{"a snapshot's end alone", func(s *state.State) { s.Snap = api.Snapshot{Expires: 1} }},
		{"a record's version in no snapshot", func(s *state.State) { s.Snap = api.Snapshot{Targets: api.Ref{Version: 1}} }},
		{"a record's size in no snapshot", func(s *state.State) { s.Snap = api.Snapshot{Targets: api.Ref{Size: 1}} }},
		{"a record's digest in no snapshot", func(s *state.State) { s.Snap = api.Snapshot{Targets: api.Ref{Hash: filler(32, 0)}} }},
		{"a snapshot of no digest", func(s *state.State) { s.Snap.Targets.Hash = nil }},
		{"a targets record without its version", func(s *state.State) { s.Aim.Version = 0 }},
		{"a targets record's end alone", func(s *state.State) { s.Aim = api.Targets{Expires: 1} }},
		{"a targets record's size alone", func(s *state.State) { s.Aim = api.Targets{Size: 1} }},
		{"a targets record's chunk size alone", func(s *state.State) { s.Aim = api.Targets{Chunk: 64} }},
		{"a targets record's root alone", func(s *state.State) { s.Aim = api.Targets{Root: filler(32, 0)} }},
		{"a targets record of no bytes", func(s *state.State) { s.Aim.Size = 0 }},
		{"a targets record of too many bytes", func(s *state.State) { s.Aim.Size = 1<<17 + 1 }},
		{"a targets record of small chunks", func(s *state.State) { s.Aim.Chunk = 63 }},
		{"a targets record of great chunks", func(s *state.State) { s.Aim.Chunk = 1025 }},
		{"a targets record of a root that is too long", func(s *state.State) { s.Aim.Root = filler(33, 0) }},
	}
}

// wrongSlots are those of them in a slot.
func wrongSlots() []change {
	var l []change
	for i := range 2 {
		l = append(l,
			change{"a slot by one root more than there are", func(s *state.State) { s.Slots[i].Roots = 4 }},
			change{"no stamp", func(s *state.State) { s.Slots[i].Stamp = nil }},
			change{"no snap", func(s *state.State) { s.Slots[i].Snap = nil }},
			change{"no aim", func(s *state.State) { s.Slots[i].Aim = nil }},
			change{"a stamp of 8193 bytes", func(s *state.State) { s.Slots[i].Stamp = filler(8193, 1) }},
			change{"a snap of 8193 bytes", func(s *state.State) { s.Slots[i].Snap = filler(8193, 1) }},
			change{"an aim of 8193 bytes", func(s *state.State) { s.Slots[i].Aim = filler(8193, 1) }},
			change{"a map of 513 bytes", func(s *state.State) { s.Slots[i].Map = filler(513, 0) }},
			change{"roots alone", func(s *state.State) { s.Slots[i] = state.Slot{Roots: 1} }},
			change{"a stamp alone", func(s *state.State) { s.Slots[i] = state.Slot{Stamp: []byte{1}} }},
			change{"a snap alone", func(s *state.State) { s.Slots[i] = state.Slot{Snap: []byte{1}} }},
			change{"an aim alone", func(s *state.State) { s.Slots[i] = state.Slot{Aim: []byte{1}} }},
			change{"a map alone", func(s *state.State) { s.Slots[i] = state.Slot{Map: []byte{0}} }},
		)
		for _, n := range ends {
			l = append(l, change{"a slot by roots out of bounds", func(s *state.State) { s.Slots[i].Roots = n }})
		}
	}
	return l
}

// refuses tells of a Write that answers otherwise than with an error.
func refuses(t *testing.T, what string, s state.State, want api.Errno) {
	t.Helper()
	if b, e := state.Write(s); e != want || len(b) > 0 {
		t.Errorf("Write: %s: %d bytes and error %d, not %d", what, len(b), e, want)
	}
}

// P14.1
func TestWrite(t *testing.T) {
	for _, c := range rightChanges() {
		s := c.made()
		b, e := state.Write(s)
		if e != api.OK || !bytes.Equal(b, bytesOf(s)) {
			t.Errorf("Write: %s: error %d and %d bytes, or other ones than the %d that it should", c.what, e, len(b), len(bytesOf(s)))
		}
	}
	for n := range 4 {
		s := stateOf(n)
		if b, e := state.Write(s); e != api.OK || !bytes.Equal(b, bytesOf(s)) {
			t.Errorf("Write: %d roots: error %d, or other bytes", n, e)
		}
	}
	want := []byte{3, 7, 3, 0, 2, 0, 2, 0, 2, 0, 1, 7, 1, 0, 3, 2, 3, 5, 1, 0, 2, 0, 2, 0, 2, 0, 2, 0, 3, 5, 1, 0, 2, 0, 2, 0, 2, 0, 2, 0}
	if b, e := state.Write(state.State{Clock: 7}); e != api.OK || !bytes.Equal(b, want) {
		t.Errorf("Write of a clock: %v and error %d", b, e)
	}
}

// P14.1
func TestWriteRefuses(t *testing.T) {
	for _, c := range wrongChanges() {
		refuses(t, c.what, c.made(), api.ErrState)
	}
	refuses(t, "far too many roots", state.State{Roots: make([][]byte, 1<<20)}, api.ErrState)
	refuses(t, "a root that is far too long", state.State{Roots: [][]byte{make([]byte, 1<<26)}}, api.ErrState)
	refuses(t, "a digest that is far too long", state.State{Aim: api.Targets{Version: 1, Size: 1, Chunk: 64, Root: make([]byte, 1<<26)}}, api.ErrState)
}

// lengthy is a right state of just so many bytes.
func lengthy(t *testing.T, n int) state.State {
	t.Helper()
	s := full()
	s.Roots = nil
	for range 15 {
		s.Roots = append(s.Roots, filler(8192, 1))
	}
	s.Roots = append(s.Roots, filler(1000, 1))
	s.Roots[15] = filler(1000+n-len(bytesOf(s)), 1)
	if len(bytesOf(s)) != n || len(s.Roots[15]) > 8192 {
		t.Fatalf("a state of %d bytes, not %d", len(bytesOf(s)), n)
	}
	return s
}

// P14.1: just so many bytes are allowed, and one more is not.
func TestWriteWithinTheLimits(t *testing.T) {
	for n := 1<<17 - 2; n <= 1<<17; n++ {
		s := lengthy(t, n)
		b, e := state.Write(s)
		if e != api.OK || len(b) != n {
			t.Errorf("Write of %d bytes: %d and error %d", n, len(b), e)
		}
		reads(t, "a long state", b, s)
	}
	for n := 1<<17 + 1; n <= 1<<17+3; n++ {
		s := lengthy(t, n)
		refuses(t, "a state that is too long", s, api.ErrLong)
		failsToRead(t, "a state that is too long", bytesOf(s))
		s.Clock = -1
		refuses(t, "a state that is too long, and not right", s, api.ErrState)
	}
	s := full()
	s.Roots = slices.Repeat([][]byte{filler(8192, 1)}, 16)
	refuses(t, "the longest roots", s, api.ErrLong)
	s.Slots[1].Map = filler(513, 1)
	refuses(t, "the longest roots, and a map that is too long", s, api.ErrState)
	s = full()
	for i := range s.Slots {
		s.Slots[i] = state.Slot{Stamp: filler(8192, 1), Snap: filler(8192, 2), Aim: filler(8192, 3), Map: filler(512, 4)}
	}
	reads(t, "the longest slots", written(t, s), s)
}

// reads tells of a Read that answers another state.
func reads(t *testing.T, what string, b []byte, want state.State) {
	t.Helper()
	if s, e := state.Read(b); e != api.OK || told(s) != told(want) {
		t.Errorf("Read: %s: error %d, or another state", what, e)
	}
}

// failsToRead tells of a Read that answers otherwise than with its error.
func failsToRead(t *testing.T, what string, b []byte) {
	t.Helper()
	if s, e := state.Read(b); e != api.ErrState || told(s) != told(state.State{}) {
		t.Errorf("Read: %s: error %d, or something beside it", what, e)
	}
}

// P14.1, P14.4
func TestRead(t *testing.T) {
	for _, c := range rightChanges() {
		s := c.made()
		reads(t, c.what, bytesOf(s), s)
	}
	for n := range 4 {
		reads(t, "roots", bytesOf(stateOf(n)), stateOf(n))
	}
}

// P14.1: values that are built like a state's, of a state that is not right.
func TestReadRefusesWhatIsNotRight(t *testing.T) {
	for _, c := range wrongChanges() {
		if s := c.made(); !noVersion(s) { // of a record without a version nothing would be written
			failsToRead(t, c.what, bytesOf(s))
		}
	}
}

// noVersion tells whether a state has a record of the version 0, of which no byte is written.
func noVersion(s state.State) bool {
	return s.Time.Version == 0 || s.Snap.Version == 0 || s.Aim.Version == 0
}

// with are the bytes of a full state with another value at one of its places.
func with(place int, value []byte) []byte {
	l := partsOf(full())
	l[place] = value
	return list(l...)
}

// withSlot are likewise, with another value at a place of one of its slots.
func withSlot(slot, place int, value []byte) []byte {
	l := [2][][]byte{slotParts(full().Slots[0]), slotParts(full().Slots[1])}
	l[slot][place] = value
	return with(6, list(list(l[0]...), list(l[1]...)))
}

// P14.1: other values, in each place.
func TestReadRefusesOtherValues(t *testing.T) {
	s := full()
	l := partsOf(s)
	for _, b := range [][]byte{nil, {}, {3}, {3, 0}, {1, 0}, {2, 0}, piece(bytesOf(s)), list(bytesOf(s)), list(l[:6]...), list(l[1:]...), list(append(l, num(0))...), slices.Concat(l...)} {
		failsToRead(t, "another list", b)
	}
	others := [][]byte{num(0), num(1), piece(nil), piece([]byte{1}), list(), list(num(0)), list(list()), list(piece(nil)), list(piece([]byte{1}), num(1))}
	for place := range l {
		for i, v := range others {
			right := place == 0 && i == 4 || place >= 1 && place <= 3 && i == 2 || (place == 4 || place == 5) && i <= 1
			if b := with(place, v); !right {
				failsToRead(t, "another value in a place", b)
			}
		}
	}
	for place, v := range slotParts(s.Slots[0]) {
		for slot := range 2 {
			for _, v := range [][]byte{list(), list(v), piece([]byte{1}), num(0)} {
				if (place == 0) != (v[0] == 1) && (place == 0 || v[0] != 2) {
					failsToRead(t, "another value in a slot", withSlot(slot, place, v))
				}
			}
		}
	}
	one, two := list(slotParts(s.Slots[0])...), list(slotParts(s.Slots[1])...)
	for _, v := range [][]byte{list(one), list(one, two, one), list(one, num(1)), list(list(slotParts(s.Slots[0])[:4]...), two), list(one, list(append(slotParts(s.Slots[1]), piece(nil))...))} {
		failsToRead(t, "other slots", with(6, v))
	}
	for _, n := range []uint64{most + 1, 1 << 63, 1<<63 + 1, math.MaxUint64} {
		failsToRead(t, "a clock that is too great", with(4, num(n)))
		failsToRead(t, "an active slot that is too great", with(5, num(n)))
		failsToRead(t, "too many roots of a slot", withSlot(1, 0, num(n)))
	}
	failsToRead(t, "an active slot that there is not", with(5, num(3)))
	failsToRead(t, "a clock in two bytes too many", with(4, []byte{1, 192, 15}))
	failsToRead(t, "300 roots", with(0, piecesOf(slices.Repeat([][]byte{{1}}, 300))))
	failsToRead(t, "a root that is a list", with(0, list(list(piece([]byte{1})))))
}

// P14.1: what stands for a record must be just such a record's bytes.
func TestReadRefusesOtherRecords(t *testing.T) {
	s := full()
	timed, snapped, aimed := timeBytes(s.Time), snapBytes(s.Snap), aimBytes(s.Aim)
	none := aimBytes(api.Targets{Version: 1, Expires: 1, Size: 1, Chunk: 63, Root: filler(32, 1)})
	for place, l := range [][][]byte{
		1: {aimed, timed[:len(timed)-1], append(bytes.Clone(timed), 0), {0}, {3, 0}, timeBytes(api.Timestamp{Version: 1, Snapshot: api.Ref{Hash: filler(32, 1)}})},
		2: {aimed, snapped[:20], append(bytes.Clone(snapped), 1, 1), sealed(api.RSnapshot, snapped, 1)},
		3: {timed, snapped, none, aimed[1:], piece(aimed), sealed(api.RTargets, aimed, 1)},
	} {
		for _, b := range l {
			failsToRead(t, "another record", with(place, piece(b)))
		}
	}
}

// P14.4, P14.1: bytes that are cut off, go on, or have one other bit, are no state's, or are written again as they are.
func TestReadOfBytesNearAStates(t *testing.T) {
	for _, s := range []state.State{{}, {Clock: 9}, full()} {
		b := bytesOf(s)
		for n := range b {
			failsToRead(t, "bytes that are cut off", b[:n])
		}
		for _, more := range [][]byte{{0}, {1, 0}, b} {
			failsToRead(t, "bytes that go on", slices.Concat(b, more))
		}
		same := 0
		for i := range 8 * len(b) {
			c := bytes.Clone(b)
			c[i/8] ^= 1 << (i % 8)
			got, e := state.Read(c)
			if e != api.OK {
				failsToRead(t, "bytes with another bit", c)
				continue
			}
			same++
			if again, e := state.Write(got); e != api.OK || !bytes.Equal(again, c) {
				t.Fatalf("what is read of the bit %d is not written again as it was: error %d", i, e)
			}
		}
		if same == 0 || same == 8*len(b) {
			t.Errorf("of %d other bits %d make no difference", 8*len(b), same)
		}
	}
}
