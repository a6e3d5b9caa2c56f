package updater_test

import (
	"bytes"
	"math"
	"testing"

	"imprimatur/api"
	"imprimatur/disk"
	"imprimatur/state"
	"imprimatur/updater"
)

// refusesToBoot tells of a Boot that answers another error, or an updater.
func refusesToBoot(t *testing.T, what string, d *disk.Disk, c updater.Config, want api.Errno) {
	t.Helper()
	if u, e := updater.Boot(d, c); e != want || u != nil {
		t.Errorf("Boot, %s: error %d, not %d, or an updater", what, e, want)
	}
}

// P15.1: the errors, the first one first.
func TestBootRefuses(t *testing.T) {
	good := config()
	bare := updater.Config{}
	for _, c := range []updater.Config{good, bare} {
		refusesToBoot(t, "no disk", nil, c, api.ErrNil)
		refusesToBoot(t, "a disk that New did not make", &disk.Disk{}, c, api.ErrNil)
		d := newDisk(sectors)
		d.Lose(nil)
		refusesToBoot(t, "a disk that is down", d, c, api.ErrDown)
	}
	other := func(change func(*updater.Config)) updater.Config {
		c := good
		change(&c)
		return c
	}
	for _, x := range []int{0, -1, math.MinInt, api.MaxBytes + 1, math.MaxInt} {
		refusesToBoot(t, "a limit", newDisk(sectors), other(func(c *updater.Config) { c.Limit = x }), api.ErrArg)
		refusesToBoot(t, "a limit, no pin", newDisk(sectors), updater.Config{Limit: x, Area: area, Room: room}, api.ErrArg)
	}
	for _, x := range append([]int{1, sectors/2 - room + 1, sectors / 2, sectors, sectors + 1}, ends...) {
		refusesToBoot(t, "an area", newDisk(sectors), other(func(c *updater.Config) { c.Area = x }), api.ErrArg)
		refusesToBoot(t, "an area, no pin", newDisk(sectors), updater.Config{Limit: 1, Area: x, Room: room}, api.ErrArg)
	}
	for _, x := range append([]int{sectors/2 - area + 1, sectors / 2, sectors}, ends...) {
		refusesToBoot(t, "a room", newDisk(sectors), other(func(c *updater.Config) { c.Room = x }), api.ErrArg)
		refusesToBoot(t, "a room, no pin", newDisk(sectors), updater.Config{Limit: 1, Area: area, Room: x}, api.ErrArg)
	}
	unsigned := sealed(api.RRoot, sealed(api.RRoot, nil))
	for _, c := range []struct {
		what string
		pin  []byte
		want api.Errno
	}{
		{"no pin", nil, api.ErrMeta},
		{"a pin of bytes that are no record", []byte("root"), api.ErrMeta},
		{"a pin that is cut off", pin()[:len(pin())-1], api.ErrMeta},
		{"a pin of another kind", usual(1, 1).stampB, api.ErrMeta},
		{"a pin of no root", unsigned, api.ErrMeta},
		{"a pin that is spoilt", spoiltRoot(), api.ErrThreshold},
	} {
		refusesToBoot(t, c.what, newDisk(sectors), other(func(x *updater.Config) { x.Pin = c.pin }), c.want)
		refusesToBoot(t, c.what, diskOf(two()), other(func(x *updater.Config) { x.Pin = c.pin }), c.want)
	}
}

// spoiltRoot is a root that another one's seed has signed.
func spoiltRoot() []byte {
	return bytes.Replace(pin(), private(1, 0)[32:], private(2, 0)[32:], 1)
}

// P15.1: the edges of what is allowed.
func TestBootEdges(t *testing.T) {
	for _, c := range []updater.Config{
		{Limit: 1, Area: area, Room: room},
		{Limit: api.MaxBytes, Area: area, Room: room},
		{Limit: 1, Area: 2, Room: 1},
		{Limit: 1, Area: 2, Room: sectors/2 - 2},
		{Limit: 1, Area: sectors/2 - 1, Room: 1},
	} {
		c.Pin = pin()
		for n := range 3 {
			u := bootBy(t, newDisk(max(2*c.Area+2*c.Room, 2)+n), c)
			servesNothing(t, "booted", u)
		}
		refusesToBoot(t, "a sector too few", newDisk(2*c.Area+2*c.Room-1), c, api.ErrArg)
	}
	c := updater.Config{Pin: pin(), Limit: 1, Area: 2, Room: api.MaxSectors/2 - 2}
	bootBy(t, newDisk(api.MaxSectors), c)
	c.Room++
	refusesToBoot(t, "a greater room than there is", newDisk(api.MaxSectors), c, api.ErrArg)
}

// P15.1: on a disk of bytes 0, or of no state, an updater knows the pinned root alone.
func TestBootWithoutAState(t *testing.T) {
	noise := bytes.Repeat([]byte{73, 77, 80, 82, 9, 200}, 64*sectors/6)
	d := must(disk.New(noise, sectors))
	e := newDisk(sectors)
	putBytes(e, []byte("no state"))
	for _, d := range []*disk.Disk{newDisk(sectors), d, e} {
		was := d.Bytes()
		strokes := d.Strokes()
		u := boot(t, d)
		wants(t, "booted", u, nothing, 0, 0)
		servesNothing(t, "booted", u)
		if s := must(u.Status(0)); s != (updater.Status{Versions: [4]int64{1}, Stale: true}) {
			t.Errorf("Status: %v", s)
		}
		if d.Strokes() != strokes || !bytes.Equal(d.Bytes(), was) {
			t.Error("Boot writes")
		}
	}
}

// two is a state of two editions, of which that in the slot 1 is active: by the root 2 and by the root 1.
func two() state.State {
	x, y := usual(2, 8), usual(1, 7)
	return state.State{
		Roots: rootsBehind(2), Time: x.time, Snap: x.snap, Aim: x.aim, Clock: 12, Active: 2,
		Slots: [2]state.Slot{x.slot(1, 0, 2), y.full(0)},
	}
}

// P15.1: a state that is there is booted from.
func TestBootFromAState(t *testing.T) {
	x, y := usual(2, 8), usual(1, 7)
	d := diskOf(two(), x.bundle, y.bundle)
	was, strokes := d.Bytes(), d.Strokes()
	u := boot(t, d)
	wants(t, "booted", u, nothing, 0, 0)
	serves(t, "booted", u, y, 0)
	want := updater.Status{Versions: [4]int64{3, 28, 18, 8}, Active: 7, Clock: 12}
	if s := must(u.Status(0)); s != want {
		t.Errorf("Status: %v, not %v", s, want)
	}
	if d.Strokes() != strokes || !bytes.Equal(d.Bytes(), was) {
		t.Error("Boot writes")
	}
	begin(t, u, 0)
	wants(t, "begun", u, aRoot, 4, 0)
	holding(t, "begun", d, two())
}

// P15.1: the first slot that serves is active: the state's active one, then the other one; of none active the slot 0, then 1.
func TestBootChooses(t *testing.T) {
	t.Parallel()
	x, y := usual(1, 8), usual(1, 7)
	long := edit(spec{1, 9, lasts, 1000, bytes.Repeat([]byte{1}, 64*room+1)})
	none := edit(spec{1, 9, lasts, 1000, []byte("no vocabulary")})
	type slot struct {
		serves bool
		state.Slot
		bundle []byte
	}
	lacks := x.full(0)
	lacks.Map = x.slot(0, 0, 1, 2, 3).Map
	byRoot := usual(2, 8)
	stranger := x.full(0)
	stranger.Snap = byRoot.snapB
	slots := []slot{
		{true, x.full(0), x.bundle},
		{true, y.full(0), y.bundle},
		{true, x.full(0), append(bytes.Clone(x.bundle), 7)},
		{false, state.Slot{}, x.bundle},
		{false, state.Slot{}, nil},
		{false, x.full(0), y.bundle},
		{false, x.full(0), spoilt(x.bundle)},
		{false, x.full(0), nil},
		{false, lacks, x.bundle},
		{false, x.slot(0), x.bundle},
		{false, stranger, x.bundle},
		{false, x.full(1), x.bundle},
		{false, long.full(0), x.bundle},
		{false, none.full(0), none.bundle},
		{true, byRoot.full(1), byRoot.bundle},
		{false, byRoot.full(0), byRoot.bundle},
	}
	for i, a := range slots {
		for j, b := range slots {
			if i > 1 && j > 1 && i != j {
				continue
			}
			for active := range int64(3) {
				want := int64(0)
				for _, n := range [][]int64{{1, 2}, {1, 2}, {2, 1}}[active] {
					if want == 0 && []slot{a, b}[n-1].serves {
						want = n
					}
				}
				s := state.State{Roots: rootsBehind(1), Active: active, Slots: [2]state.Slot{a.Slot, b.Slot}}
				chooses(t, s, [][]byte{a.bundle, b.bundle}, want)
			}
		}
	}
}

// chooses tells of an updater that is booted with another active slot.
func chooses(t *testing.T, s state.State, bundles [][]byte, want int64) {
	t.Helper()
	d := diskOf(s, bundles...)
	u := boot(t, d)
	holding(t, "booted", d, s)
	if want == 0 {
		servesNothing(t, "no slot serves", u)
		return
	}
	_, got, e := u.Evidence()
	if e != api.OK || told(got) != told(s.Slots[want-1]) {
		t.Errorf("of the slots %s: error %d, or another slot than %d", brief(s), e, want)
	}
	if b, e := u.Active(); e != api.OK || !bytes.HasPrefix(bundles[want-1], b) {
		t.Errorf("of the slots %s: Active: error %d, or another one's bytes", brief(s), e)
	}
	// What was chosen is put with the next step's end.
	begin(t, u, 0)
	if is := stored(t, d); is.Active != want {
		t.Errorf("of the slots %s: %d is active behind a Begin, not %d", brief(s), is.Active, want)
	}
}

// P15.1: the slots whose roots are not trusted any more are no longer proved.
func TestBootWithRootsThatAreNot(t *testing.T) {
	s := two()
	s.Roots[0] = spoilt(s.Roots[0])
	u := boot(t, diskOf(s, usual(2, 8).bundle, usual(1, 7).bundle))
	serves(t, "the other slot's root is spoilt", u, usual(1, 7), 0)
	if v := must(u.Status(0)).Versions; v != [4]int64{1, 28, 18, 8} {
		t.Errorf("versions %v", v)
	}
	c := config()
	c.Pin = rootBytes(2, lasts)
	servesNothing(t, "another root is pinned", bootBy(t, diskOf(two(), usual(2, 8).bundle, usual(1, 7).bundle), c))
}
