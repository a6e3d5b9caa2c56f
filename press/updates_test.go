package press_test

import (
	"bytes"
	"math/rand"
	"testing"

	"imprimatur/api"
	"imprimatur/disk"
	"imprimatur/press"
	"imprimatur/updater"
)

// P16.5: an updater that is answered by the press serves the issue's vocabulary.
func TestUpdates(t *testing.T) {
	t.Parallel()
	v := learnt('q', 5)
	v.Tokens = append(v.Tokens, special(7, 9))
	v.Tokens[5].Score = -0.125
	for _, chunk := range []int64{64, 65, 700, 1000, 1024} {
		for _, x := range []api.Vocab{letters(), v} {
			i := press.Issue{Version: 3, Expires: lasts, Chunk: chunk, Vocab: x}
			m := mirror{nil, must(press.Publish(i, four(1)))}
			u := boot(t, newDisk(sectors))
			if n := update(t, u, m, lasts-1); n != 4+chunks(m.Edition) {
				t.Errorf("%d steps, not %d", n, 4+chunks(m.Edition))
			}
			serves(t, "an update", u, i)
		}
	}
}

// P16.5: likewise by Keys of more seeds than must sign, from a root of a later version on.
func TestUpdatesByMoreKeys(t *testing.T) {
	t.Parallel()
	r := rand.New(rand.NewSource(1))
	for range 6 {
		keys, next := someFour(r, 100), someFour(r, 200)
		signers := append(some(r, keys[0], int(keys[0].Need)), some(r, next[0], int(next[0].Need))...)
		pin := must(press.Root(1, lasts, keys, keys[0].Seeds...))
		i := usual(1 + r.Int63n(9))
		m := mirror{[][]byte{must(press.Root(2, lasts, next, signers...))}, must(press.Publish(i, next))}
		u := bootBy(t, newDisk(sectors), updater.Config{Pin: pin, Limit: api.MaxMeta, Area: area, Room: room})
		if n := update(t, u, m, 0); n != 5+chunks(m.Edition) {
			t.Errorf("%d steps, not %d", n, 5+chunks(m.Edition))
		}
		serves(t, "an update", u, i)
	}
}

// P16.5: the greatest bundle, and on a disk that has just no room for it none.
func TestUpdatesOfTheGreatest(t *testing.T) {
	t.Parallel()
	i := press.Issue{Version: 1, Expires: lasts, Chunk: 1024, Vocab: sized(api.MaxBundle)}
	m := mirror{nil, must(press.Publish(i, four(1)))}
	size := api.MaxBundle / api.Sector
	u := bootBy(t, newDisk(2*(area+size)), updater.Config{Pin: pinned(), Limit: api.MaxMeta, Area: area, Room: size})
	if n := update(t, u, m, 0); n != 4+128 {
		t.Errorf("%d steps", n)
	}
	serves(t, "the greatest bundle", u, i)
	u = bootBy(t, newDisk(2*(area+size)), updater.Config{Pin: pinned(), Limit: api.MaxMeta, Area: area, Room: size - 1})
	if n, e := fetch(t, u, m, 0); n != 3 || e != api.ErrSize {
		t.Errorf("no room: %d steps and error %d", n, e)
	}
}

// W5: the last one that was published is served, keys are changed by roots; older ones, strangers' and those whose time has come are refused.
func TestTheLastIsServed(t *testing.T) {
	t.Parallel()
	d := newDisk(sectors)
	u := boot(t, d)
	var roots [][]byte
	var last mirror
	for v := int64(1); v <= 6; v++ {
		if v%2 == 0 {
			roots = append(roots, rootBehind(int(v/2)+1, lasts))
		}
		own := four(len(roots) + 1)
		i := usual(v)
		m := mirror{roots, must(press.Publish(i, own))}
		update(t, u, m, v)
		serves(t, "the last one", u, i)
		refused := func(what string, m mirror, clock int64, want api.Errno) {
			t.Helper()
			if _, e := fetch(t, u, m, clock); e != want {
				t.Errorf("%s: error %d, not %d", what, e, want)
			}
			serves(t, what, u, i)
		}
		if v > 1 {
			last.roots = roots
			older := must(press.Publish(usual(v-1), own))
			refused("an older one", mirror{roots, older}, v, api.ErrVersion)
			if v%2 == 0 {
				refused("an older one, by keys that were changed", last, v, api.ErrThreshold)
			}
		}
		other := usual(v)
		other.Vocab = letters()
		refused("another one of the same version", mirror{roots, must(press.Publish(other, own))}, v, api.ErrVersion)
		refused("a stranger's", mirror{roots, must(press.Publish(usual(v+1), four(9)))}, v, api.ErrThreshold)
		over := usual(v + 1)
		over.Expires = v
		refused("one that has expired", mirror{roots, must(press.Publish(over, own))}, v, api.ErrExpired)
		refused("a stranger's root", mirror{append(roots[:len(roots):len(roots)], must(press.Root(int64(len(roots)+2), lasts, four(9), seeds(900)...))), m.Edition}, v, api.ErrThreshold)
		last = m
	}
	if _, e := fetch(t, u, last, lasts); e != api.ErrExpired {
		t.Errorf("when all has expired: error %d", e)
	}
	serves(t, "when all has expired", u, usual(6))
}

// W6: nothing is fetched twice but what came while the power went; the old one is served till the new one is whole; one update more heals whatever was lost.
func TestThePowerGoes(t *testing.T) {
	t.Parallel()
	for seed := range int64(8) {
		t.Run("", func(t *testing.T) {
			t.Parallel()
			r := rand.New(rand.NewSource(seed))
			d := newDisk(sectors)
			old, young := usual(1), usual(2)
			young.Chunk = 64 + r.Int63n(900)
			update(t, boot(t, d), mirror{nil, must(press.Publish(old, four(1)))}, 0)
			m := mirror{rootsBehind(1), must(press.Publish(young, four(2)))}
			fetched := make([]int, chunks(m.Edition))
			cuts := 0
			u := boot(t, d)
			for rounds := 0; must(u.Status(0)).Active != 2; rounds++ {
				if rounds > 3000 {
					t.Fatal("it does not come to an end")
				}
				serves(t, "till the new one is whole", u, old)
				if !goesOn(t, u, d, m, r, fetched) {
					cuts++
					u = boot(t, d)
				}
			}
			serves(t, "in the end", u, young)
			sum := 0
			for _, n := range fetched {
				sum += n
				if n > 1 {
					t.Error("a chunk that was put was fetched again")
				}
			}
			if cuts == 0 || sum+cuts < len(fetched) {
				t.Errorf("%d chunks went well, the power went %d times, there are %d chunks", sum, cuts, len(fetched))
			}
		})
	}
}

// goesOn goes on with an update till it is done, counting the chunks that went well, and tells whether it came so far: the power goes somewhere, or does not.
func goesOn(t *testing.T, u *updater.Updater, d *disk.Disk, m mirror, r *rand.Rand, fetched []int) bool {
	t.Helper()
	done(t, d.Set(r.Intn(300), nil))
	e := u.Begin(0)
	for e == api.OK && u.Want().Kind != nothing {
		w := u.Want()
		if e = u.Step(m.answer(t, w), 0); e == api.OK && w.Kind == aChunk {
			fetched[w.Place]++
		}
	}
	d.Start()
	if e != api.OK && e != api.ErrDown {
		t.Fatalf("error %d", e)
	}
	return e == api.OK
}

// W6: a mirror can delay, but not deceive: whatever it answers, what is served is what was published by the right keys, and with a mirror as it should be one update more serves the last one.
func TestMirrorsDoNotDeceive(t *testing.T) {
	t.Parallel()
	for seed := range int64(8) {
		t.Run("", func(t *testing.T) {
			t.Parallel()
			r := rand.New(rand.NewSource(seed))
			u := boot(t, newDisk(sectors))
			roots := rootsBehind(1)
			var right, others []press.Edition
			served := 0
			for v := int64(1); v <= 5; v++ {
				right = append(right, must(press.Publish(usual(v), four(2))))
				others = append(others, must(press.Publish(usual(v+1), four(8))), must(press.Publish(usual(v), four(1))))
				for range 12 {
					e := u.Begin(v)
					for e == api.OK && u.Want().Kind != nothing {
						e = u.Step(deceit(r, u.Want(), roots, right, others), v)
					}
					if genuine(t, u, right) {
						served++
					}
				}
				update(t, u, mirror{roots, right[v-1]}, v)
				serves(t, "behind all that", u, usual(v))
			}
			if served == 0 {
				t.Error("nothing was served but by a mirror as it should be")
			}
		})
	}
}

// deceit is what a mirror answers that is not to be trusted.
func deceit(r *rand.Rand, w updater.Want, roots [][]byte, right, others []press.Edition) []byte {
	x := right[len(right)-1]
	switch r.Intn(12) {
	case 0:
		x = others[r.Intn(len(others))]
	case 1:
		x = right[r.Intn(len(right))]
	}
	if r.Intn(20) == 0 {
		w.Kind = 1 + r.Intn(5)
	}
	if r.Intn(20) == 0 {
		w.Place = r.Intn(5)
	}
	b, _ := press.Answer(x, roots, w)
	switch r.Intn(40) {
	case 0:
		return b[:r.Intn(len(b)+1)]
	case 1:
		if len(b) > 0 {
			b[r.Intn(len(b))] ^= 1 << r.Intn(8)
		}
	case 2:
		return append(b, 0)
	}
	return b
}

// genuine tells whether something is served, and of something that none of the right editions has.
func genuine(t *testing.T, u *updater.Updater, right []press.Edition) bool {
	t.Helper()
	b, e := u.Active()
	if e == api.ErrNone {
		return false
	}
	done(t, e)
	i := must(u.Status(0)).Active - 1
	if i < 0 || i >= int64(len(right)) || !bytes.Equal(b, right[i].Bundle) {
		t.Errorf("what is served as the version %d is another one", i+1)
	}
	return true
}
