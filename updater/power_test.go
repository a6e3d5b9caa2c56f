package updater_test

import (
	"bytes"
	"math/rand"
	"testing"

	"imprimatur/api"
	"imprimatur/disk"
	"imprimatur/state"
	"imprimatur/updater"
)

// booted is all that is booted from a disk, in words: what it answers, and the state and trust that it stands for.
func booted(t *testing.T, d *disk.Disk) string {
	t.Helper()
	u := boot(t, d)
	s, trust, e := state.Boot(pin(), must(state.Write(stored(t, d))))
	done(t, e)
	b, e := u.Active()
	l, slot, late := u.Evidence()
	return told([]any{must(u.Status(0)), b, e, l, slot, late, brief(s), s.Roots, trust})
}

// cut is what a call does whose power goes at a stroke, with a choice: on copies of a disk, booted anew, it comes to the same as ahead of the call, or behind it.
type cut struct {
	what string
	d    *disk.Disk // ahead of the call
	call func(u *updater.Updater) api.Errno
	m    mirror // what the call is a part of
	next mirror // an update that goes well behind it
}

// lead is an updater on a copy of the disk that wants what the call is for.
func (c cut) lead(t *testing.T, kind, place int) (*updater.Updater, *disk.Disk) {
	t.Helper()
	d := c.d.Copy()
	u := boot(t, d)
	if kind != nothing {
		begin(t, u, 0)
		for u.Want().Kind != kind || u.Want().Place != place {
			step(t, u, c.m, 0)
		}
	}
	return u, d
}

// each tries all strokes of a call, without a choice, and with these by turns.
func (c cut) each(t *testing.T, kind, place int, choices [][]bool) {
	t.Helper()
	_, d := c.lead(t, kind, place)
	before := booted(t, d)
	u, d := c.lead(t, kind, place)
	strokes := d.Strokes()
	e := c.call(u)
	strokes = d.Strokes() - strokes
	after := booted(t, d)
	if e == api.ErrDown || strokes < 6 {
		t.Fatalf("%s: error %d, %d strokes", c.what, e, strokes)
	}
	olds, news := 0, 0
	for stroke := range strokes {
		for _, choice := range [][]bool{nil, choices[stroke%len(choices)]} {
			u, d := c.lead(t, kind, place)
			done(t, d.Set(stroke, choice))
			if e := c.call(u); e != api.ErrDown {
				t.Fatalf("%s: the power goes at the stroke %d: error %d", c.what, stroke, e)
			}
			d.Start()
			if e := u.Begin(0); e != api.ErrDown {
				t.Fatalf("%s: Begin behind it: error %d", c.what, e)
			}
			is := booted(t, d)
			if stroke%4 == 0 && is != booted(t, d) {
				t.Fatalf("%s: booted twice it is another one", c.what)
			}
			switch is {
			case before:
				olds++
			case after:
				news++
			default:
				t.Fatalf("%s: the power goes at the stroke %d of %d: neither what was ahead of it, nor what is behind it", c.what, stroke, strokes)
			}
			if stroke%8 == 0 { // what was begun can be ended
				u = boot(t, d)
				update(t, u, c.next, 0)
				serves(t, c.what+", ended", u, c.next.edition, 1)
			}
		}
	}
	if before != after && (olds == 0 || news == 0) {
		t.Errorf("%s: %d times what was ahead, %d times what is behind", c.what, olds, news)
	}
}

// P15.7, W2: the power goes at each stroke of a Begin, and of each kind of a Step.
func TestThePowerGoes(t *testing.T) {
	t.Parallel()
	x, y := usual(1, 5), usual(2, 6)
	d := newDisk(sectors)
	update(t, boot(t, d), mirror{nil, x}, 0)
	m := mirror{rootsBehind(1), y}
	all := make([]bool, 200)
	for i := range all {
		all[i] = true
	}
	r := rand.New(rand.NewSource(2))
	for _, c := range []struct {
		what        string
		kind, place int
	}{
		{"Begin", nothing, 0}, {"a root", aRoot, 0}, {"no more roots", aRoot, 1}, {"a timestamp", aTimestamp, 0},
		{"a snapshot", aSnapshot, 0}, {"a targets record", aTargets, 0}, {"a chunk", aChunk, 2}, {"the last chunk", aChunk, 4},
	} {
		t.Run(c.what, func(t *testing.T) {
			choices := [][]bool{all, someBits(r, 200), someBits(r, 200)}
			t.Parallel()
			call := func(u *updater.Updater) api.Errno {
				if c.kind == nothing {
					return u.Begin(9)
				}
				return u.Step(m.answer(u.Want()), 9)
			}
			d, m := d, m
			if c.place == 1 { // its root is there
				d = d.Copy()
				u := boot(t, d)
				begin(t, u, 0)
				step(t, u, m, 0)
				c.place = 0
			}
			cut{c.what, d, call, m, m}.each(t, c.kind, c.place, choices)
		})
	}
}

// P15.7: likewise of steps that fail, among them one that empties a slot.
func TestThePowerGoesWithinAStepThatFails(t *testing.T) {
	t.Parallel()
	x := usual(2, 5)
	none := mirror{rootsBehind(1), edit(spec{2, 6, lasts, 1000, bytes.Repeat([]byte("no"), 800)})}
	m, next := mirror{rootsBehind(1), usual(2, 6)}, mirror{rootsBehind(1), usual(2, 7)}
	d := newDisk(sectors)
	update(t, boot(t, d), mirror{m.roots, x}, 0)
	for _, c := range []struct {
		what        string
		kind, place int
		m           mirror
		reply       []byte
	}{
		{"a root that is wrong", aRoot, 0, m, []byte{1}},
		{"a targets record that is wrong", aTargets, 0, m, []byte{1}},
		{"a chunk that is wrong", aChunk, 1, m, []byte{1}},
		{"a bundle that is no vocabulary", aChunk, 1, none, none.reply(1)},
	} {
		t.Run(c.what, func(t *testing.T) {
			t.Parallel()
			call := func(u *updater.Updater) api.Errno { return u.Step(c.reply, 9) }
			x := cut{c.what, d, call, c.m, next}
			x.each(t, c.kind, c.place, [][]bool{{true}, {true, false, true}})
		})
	}
}

// P15.7, W6: the power goes again and again; nothing is fetched twice but what came while it went, and in the end the update is done.
func TestThePowerGoesAgainAndAgain(t *testing.T) {
	t.Parallel()
	for seed := range int64(16) {
		t.Run("", func(t *testing.T) {
			t.Parallel()
			r := rand.New(rand.NewSource(seed))
			b := bundleOf('z', 5)
			m := mirror{rootsBehind(2), edit(spec{3, 5, lasts, 64 + r.Intn(900), b})}
			d := newDisk(sectors)
			u := boot(t, d)
			fetched, cuts := make([]int, m.count()), 0
			for rounds := 0; ; rounds++ {
				if rounds > 3000 {
					t.Fatal("it does not come to an end")
				}
				done(t, d.Set(r.Intn(400), someBits(r, 60)))
				e := u.Begin(0)
				for e == api.OK && u.Want().Kind != nothing {
					w := u.Want()
					if e = u.Step(m.answer(w), 0); e == api.OK && w.Kind == aChunk {
						fetched[w.Place]++
					}
				}
				if e == api.OK {
					break
				}
				if e != api.ErrDown {
					t.Fatalf("error %d", e)
				}
				cuts++
				d.Start()
				u = boot(t, d)
			}
			serves(t, "in the end", u, m.edition, 2)
			for place, n := range fetched {
				if n > 1 {
					t.Errorf("the chunk %d was fetched %d times, though the power did not go", place, n)
				}
			}
			if cuts == 0 {
				t.Log("the power never went")
			}
		})
	}
}
