package updater_test

import (
	"bytes"
	"crypto/sha256"
	"math"
	"testing"

	"imprimatur/api"
	"imprimatur/disk"
	"imprimatur/state"
	"imprimatur/store"
	"imprimatur/updater"
)

// P15.2: the example; the next root is wanted, whichever is trusted.
func TestBegin(t *testing.T) {
	for _, n := range []int{0, 1, 2, 15} {
		s := state.State{Roots: rootsBehind(n), Clock: 4}
		d := diskOf(s)
		u := boot(t, d)
		begin(t, u, 3)
		wants(t, "begun", u, aRoot, int64(n+2), 0)
		holding(t, "begun", d, s)
		begin(t, u, 9)
		wants(t, "begun again", u, aRoot, int64(n+2), 0)
		s.Clock = 9
		holding(t, "begun again", d, s)
	}
	for _, version := range []int{2, 7, 300} {
		c := config()
		c.Pin = rootBytes(version, lasts)
		u := bootBy(t, newDisk(sectors), c)
		begin(t, u, 0)
		wants(t, "another root is pinned", u, aRoot, int64(version+1), 0)
	}
}

// P15.2: it may begin, though its root has expired: the one behind it may not have.
func TestBeginWithARootThatHasExpired(t *testing.T) {
	u := boot(t, newDisk(sectors))
	begin(t, u, lasts)
	wants(t, "begun", u, aRoot, 2, 0)
	if e := u.Step(nil, 0); e != api.ErrExpired {
		t.Errorf("Step: error %d", e)
	}
	wants(t, "failed", u, nothing, 0, 0)
	begin(t, u, math.MaxInt64)
	wants(t, "begun", u, aRoot, 2, 0)
	if e := u.Step(rootBytes(2, most), 0); e != api.OK {
		t.Errorf("Step: error %d", e)
	}
	wants(t, "a root came", u, aRoot, 3, 0)
	if e := u.Step(nil, 0); e != api.ErrExpired { // at 2^62 all has
		t.Errorf("Step: error %d", e)
	}
}

// P15.2: with as many roots as there may be it goes on to the timestamp, if the last one has not expired.
func TestBeginWithAllRoots(t *testing.T) {
	s := state.State{Roots: rootsBehind(api.MaxRoots), Clock: 1}
	s.Roots[15] = rootBytes(17, 500)
	d := diskOf(s)
	u := boot(t, d)
	for _, clock := range []int64{0, 1, 499} {
		begin(t, u, clock)
		wants(t, "begun", u, aTimestamp, 0, 0)
		s.Clock = max(s.Clock, clock)
		holding(t, "begun", d, s)
	}
	for _, clock := range []int64{500, 501, math.MaxInt64} {
		if e := u.Begin(clock); e != api.ErrExpired {
			t.Errorf("Begin: error %d", e)
		}
		wants(t, "failed", u, nothing, 0, 0)
		s.Clock = min(clock, most)
		holding(t, "failed", d, s)
	}
}

// P15.2: what began anew forgets what it wanted, and what had come, but for what is in the state.
func TestBeginAnew(t *testing.T) {
	m := mirror{rootsBehind(1), usual(2, 5)}
	for _, kind := range []int{aRoot, aTimestamp, aSnapshot, aTargets, aChunk} {
		d := newDisk(sectors)
		u := boot(t, d)
		upTo(t, u, m, kind)
		is := stored(t, d)
		begin(t, u, 0)
		version := int64(3)
		if kind == aRoot {
			version = 2
		}
		wants(t, "begun anew", u, aRoot, version, 0)
		holding(t, "begun anew", d, is)
		update(t, u, m, 0)
		serves(t, "fetched", u, m.edition, 1)
	}
}

// P15.2: the clock never goes back, and stays within its bounds.
func TestClock(t *testing.T) {
	d := newDisk(sectors)
	u := boot(t, d)
	clock := int64(0)
	for _, reading := range []int64{math.MinInt64, -1, 0, 5, 4, 3, -5, 70, 5, most - 1, most, most + 1, math.MaxInt64, 0} {
		clock = max(clock, min(reading, most))
		if s := must(u.Status(reading)); s.Clock != clock {
			t.Errorf("Status at %d: clock %d, not %d", reading, s.Clock, clock)
		}
		begin(t, u, reading)
		if s := must(u.Status(0)); s.Clock != clock || stored(t, d).Clock != clock {
			t.Errorf("Begin at %d: clock %d, stored %d, not %d", reading, s.Clock, stored(t, d).Clock, clock)
		}
	}
	u = boot(t, d)
	if s := must(u.Status(0)); s.Clock != most {
		t.Errorf("booted: clock %d", s.Clock)
	}
}

// P15.2: all calls of no updater.
func TestNoUpdater(t *testing.T) {
	for _, u := range []*updater.Updater{nil, {}} {
		if e := u.Begin(1); e != api.ErrNil {
			t.Errorf("Begin: error %d", e)
		}
		for _, b := range [][]byte{nil, {1}} {
			if e := u.Step(b, 1); e != api.ErrNil {
				t.Errorf("Step: error %d", e)
			}
		}
		wants(t, "no updater", u, nothing, 0, 0)
		if s, e := u.Status(1); e != api.ErrNil || s != (updater.Status{}) {
			t.Errorf("Status: %v and error %d", s, e)
		}
		refuses(t, "no updater", u, api.ErrNil)
	}
}

// P15.2: while the power is gone nothing is answered.
func TestDown(t *testing.T) {
	m := mirror{nil, usual(1, 5)}
	for _, kind := range []int{nothing, aRoot, aTimestamp, aChunk} {
		d := newDisk(sectors)
		u := boot(t, d)
		if kind == nothing {
			update(t, u, m, 0)
		} else {
			upTo(t, u, m, kind)
		}
		w := u.Want()
		d.Lose(nil)
		down(t, "the power is gone", u, w)
		// It went while nothing was done, so that nothing is on the disk that is not known.
		d.Start()
		if s := must(u.Status(0)); s.Want != w || s.Clock != 0 {
			t.Errorf("started: status %v", s)
		}
		update(t, u, m, 0)
		serves(t, "started", u, m.edition, 0)
	}
}

// P15.2: an updater whose power went within a call is down from then on, and has changed nothing.
func TestDownFromThenOn(t *testing.T) {
	m := mirror{rootsBehind(1), usual(2, 5)}
	for _, kind := range []int{nothing, aRoot, aTimestamp, aSnapshot, aTargets, aChunk} {
		for _, wrong := range []bool{false, true} {
			d := newDisk(sectors)
			u := boot(t, d)
			if kind != nothing {
				upTo(t, u, m, kind)
			}
			w := u.Want()
			done(t, d.Set(0, nil))
			e := api.OK
			switch {
			case kind == nothing:
				e = u.Begin(3)
			case wrong:
				e = u.Step([]byte{1}, 3) // the end of a step that fails is one, too
			default:
				e = u.Step(m.answer(w), 3)
			}
			if e != api.ErrDown {
				t.Errorf("the power goes within what %v wants: error %d", w, e)
			}
			down(t, "the power went", u, w)
			d.Start()
			down(t, "the power went, and is there again", u, w)
			u = boot(t, d)
			wants(t, "booted", u, nothing, 0, 0)
			update(t, u, m, 0)
			serves(t, "booted", u, m.edition, 1)
		}
	}
}

// P15.2: of a state for which there is just so much room, the clock may grow no longer.
func TestTooLongByTheClock(t *testing.T) {
	s := tight()
	c := config()
	c.Area = 1 + len(must(state.Write(s)))/64
	d := newDisk(2*c.Area + 2*c.Room)
	if e := must(store.Open(d, 0, c.Area)).Put(must(state.Write(s))); e != api.OK {
		t.Fatal(e)
	}
	u := bootBy(t, d, c)
	for _, clock := range []int64{192, 0, 191, 192, 1 << 30, math.MaxInt64} {
		want := api.OK
		if clock > 191 { // its bytes are more than one
			want = api.ErrLong
		} else {
			s.Clock = max(s.Clock, clock)
		}
		if e := u.Begin(clock); e != want {
			t.Errorf("Begin at %d: error %d, not %d", clock, e, want)
		}
		if st := must(u.Status(0)); st.Clock != s.Clock || (st.Want.Kind == aRoot) != (want == api.OK) {
			t.Errorf("Begin at %d: status %v", clock, st)
		}
		b := must(must(store.Open(d, 0, c.Area)).Get())
		if !bytes.Equal(b, must(state.Write(s))) {
			t.Errorf("Begin at %d: the state is another one", clock)
		}
	}
}

// tight is a state whose bytes fill sectors.
func tight() state.State {
	x := usual(1, 5)
	s := state.State{Time: x.time, Snap: x.snap}
	for _, n := range []*int64{
		&s.Time.Version, &s.Time.Expires, &s.Time.Snapshot.Version, &s.Time.Snapshot.Size,
		&s.Snap.Version, &s.Snap.Expires, &s.Snap.Targets.Version, &s.Snap.Targets.Size,
	} {
		for *n = 1; *n < 1<<60; *n *= 14 {
			if len(must(state.Write(s)))%64 == 0 {
				return s
			}
		}
	}
	panic("no such state")
}

// worn lets the newest area of a store be the last that there may be.
func worn(d *disk.Disk) {
	s := must(store.Open(d, 0, area))
	number, _, e := s.Newest()
	record := must(s.Get())
	digest := sha256.Sum256(append(bytes.Repeat([]byte{255}, 8), record...))
	head := append([]byte{73, 77, 80, 82, 255, 255, 255, 255, 255, 255, 255, 255, 0, 0, byte(len(record) >> 8), byte(len(record))}, digest[:]...)
	if e == api.OK {
		e = disk.Save(d, area*number, head)
	}
	if e == api.OK {
		e = d.Flush()
	}
	if e != api.OK {
		panic(e)
	}
}

// P15.2: what can not be put into the store changes nothing, but that nothing is wanted; that comes ahead of what a reply fails with.
func TestTooLong(t *testing.T) {
	m := mirror{rootsBehind(1), usual(2, 5)}
	for _, kind := range []int{nothing, aRoot, aTimestamp, aSnapshot, aTargets, aChunk} {
		for _, wrong := range []bool{false, true} {
			d := newDisk(sectors)
			u := boot(t, d)
			if kind == nothing {
				begin(t, u, 0)
			} else {
				upTo(t, u, m, kind)
			}
			for u.Want().Kind == aChunk && u.Want().Place < m.count()-1 { // the last one
				step(t, u, m, 0)
			}
			worn(d)
			is, was := stored(t, d), must(u.Status(0))
			reply := m.answer(u.Want())
			if wrong {
				reply = []byte{1}
			}
			e := api.OK
			if kind == nothing {
				e = u.Begin(7)
			} else {
				e = u.Step(reply, 7)
			}
			if e != api.ErrLong {
				t.Errorf("what can not be put: error %d to what %v wants", e, was.Want)
			}
			holding(t, "what can not be put", d, is)
			was.Want = updater.Want{}
			if s := must(u.Status(0)); s != was {
				t.Errorf("what can not be put: status %v, not %v", s, was)
			}
			servesNothing(t, "what can not be put", u)
			if e := u.Step(reply, 7); e != api.ErrOrder {
				t.Errorf("Step behind it: error %d", e)
			}
			// With room again, it goes on.
			d = diskOf(is, d.Bytes()[64*2*area:])
			u = boot(t, d)
			update(t, u, m, 0)
			serves(t, "with room again", u, m.edition, 1)
		}
	}
}
