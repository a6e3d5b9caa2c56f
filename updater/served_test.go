package updater_test

import (
	"bytes"
	"math"
	"testing"

	"imprimatur/api"
	"imprimatur/state"
	"imprimatur/updater"
)

// P15.3
func TestStatus(t *testing.T) {
	m := mirror{rootsBehind(2), usual(3, 5)}
	u := boot(t, newDisk(sectors))
	check := func(what string, versions [4]int64, active int64, w updater.Want) {
		t.Helper()
		want := updater.Status{Versions: versions, Active: active, Clock: 7, Want: w, Stale: versions[1] == 0}
		if s, e := u.Status(7); e != api.OK || s != want {
			t.Errorf("%s: %v and error %d, not %v", what, s, e, want)
		}
	}
	v := [4]int64{1}
	check("booted", v, 0, updater.Want{})
	begin(t, u, 0)
	check("begun", v, 0, updater.Want{Kind: aRoot, Version: 2})
	for ; v[0] < 3; v[0]++ {
		check("a root is wanted", v, 0, updater.Want{Kind: aRoot, Version: v[0] + 1})
		step(t, u, m, 0)
	}
	step(t, u, m, 0)
	check("no more roots", v, 0, updater.Want{Kind: aTimestamp})
	step(t, u, m, 0)
	v[1] = 25
	check("a timestamp", v, 0, updater.Want{Kind: aSnapshot, Version: 15})
	step(t, u, m, 0)
	v[2] = 15
	check("a snapshot", v, 0, updater.Want{Kind: aTargets, Version: 5})
	step(t, u, m, 0)
	v[3] = 5
	for i := range m.count() {
		check("a targets record", v, 0, updater.Want{Kind: aChunk, Version: 5, Place: i})
		step(t, u, m, 0)
	}
	check("fetched", v, 5, updater.Want{})
	// What is served is that of the version 5 until the next one is whole, though the next one's record is trusted.
	m.edition = usual(3, 9)
	upTo(t, u, m, aChunk)
	check("the next one is begun", [4]int64{3, 29, 19, 9}, 5, updater.Want{Kind: aChunk, Version: 9})
}

// P15.3: stale is what has no timestamp, or one that has expired, or a root that has.
func TestStale(t *testing.T) {
	for _, c := range []struct{ root, time, others, from int64 }{
		{100, 50, 200, 50}, {50, 100, 200, 50}, {100, 100, 200, 100}, {100, 90, 20, 90}, {most, most, 1, most}, {most, 3, 1, 3},
	} {
		x := usual(1, 5)
		x.time.Expires, x.snap.Expires, x.aim.Expires = c.time, c.others, c.others
		x.seal(1)
		y := config()
		y.Pin = rootBytes(1, c.root)
		for _, clock := range []int64{0, 1, c.from - 1, c.from, most} {
			s := state.State{Time: x.time, Clock: clock}
			d := diskOf(s)
			u := bootBy(t, d, y)
			for _, reading := range []int64{math.MinInt64, 0, c.from - 1, c.from, c.from + 1, most, math.MaxInt64} {
				now := max(clock, min(reading, most))
				is := must(u.Status(reading))
				if is.Stale != (now >= c.from) || is.Clock != now {
					t.Errorf("root %d, timestamp %d: at %d stale %t, clock %d", c.root, c.time, now, is.Stale, is.Clock)
				}
			}
			holding(t, "Status", d, s)
		}
	}
	u := boot(t, diskOf(state.State{Snap: usual(1, 5).snap, Aim: usual(1, 5).aim}))
	if s := must(u.Status(0)); !s.Stale || s.Versions != [4]int64{1, 0, 15, 5} {
		t.Errorf("without a timestamp: %v", s)
	}
}

// P15.3, P15.4, P8.6: asking changes nothing.
func TestAskingChangesNothing(t *testing.T) {
	m := mirror{rootsBehind(1), usual(2, 5)}
	for _, kind := range []int{nothing, aRoot, aSnapshot, aChunk} {
		u, d := at(t, m, kind)
		was, strokes, w := d.Bytes(), d.Strokes(), u.Want()
		for range 3 {
			for _, clock := range []int64{0, 500, lasts, math.MaxInt64, 0} {
				if s := must(u.Status(clock)); s.Clock != min(clock, most) || s.Want != w {
					t.Errorf("Status: %v", s)
				}
			}
			u.Active()
			u.Vocab()
			u.Evidence()
		}
		if !bytes.Equal(was, d.Bytes()) || d.Strokes() != strokes || d.Held() != 0 || u.Want() != w {
			t.Error("asking changes something")
		}
		for u.Want().Kind != nothing {
			step(t, u, m, 0)
		}
	}
}

// P15.4: the roots that lead to the bundle, though there are more of them now, and its slot.
func TestEvidence(t *testing.T) {
	x, y := usual(2, 5), usual(4, 6)
	d := newDisk(sectors)
	u := boot(t, d)
	update(t, u, mirror{rootsBehind(1), x}, 0)
	serves(t, "one root", u, x, 1)
	upTo(t, u, mirror{rootsBehind(3), y}, aChunk)
	for u.Want().Kind != nothing {
		serves(t, "the next one is begun", u, x, 1)
		serves(t, "the next one is begun, booted", boot(t, d), x, 1)
		step(t, u, mirror{rootsBehind(3), y}, 0)
	}
	serves(t, "three roots", u, y, 3)
	l, _, e := u.Evidence()
	if e != api.OK || told(l) != told(rootsBehind(3)) {
		t.Errorf("Evidence: %d roots and error %d, or others", len(l), e)
	}
}

// P15.4: bundles of all sizes, up to one that fills its slot.
func TestActive(t *testing.T) {
	c := config()
	c.Room = (len(bundleOf('x', 31)) + 63) / 64
	d := newDisk(2*area + 2*c.Room)
	u := bootBy(t, d, c)
	for i, n := range []int{31, 0, 3, 31} {
		e := edit(spec{1, int64(i + 1), lasts, 700 + i, bundleOf('x', n)})
		update(t, u, mirror{nil, e}, 0)
		serves(t, "a bundle", u, e, 0)
		serves(t, "a bundle, booted", bootBy(t, d, c), e, 0)
	}
}
