package updater_test

import (
	"bytes"
	"math/rand"
	"slices"
	"testing"

	"imprimatur/api"
	"imprimatur/disk"
	"imprimatur/merkle"
	"imprimatur/meta"
	"imprimatur/state"
	"imprimatur/updater"
)

// walk is an updater through calls of chance, and the model beside it.
type walk struct {
	*testing.T
	r        *rand.Rand
	d        *disk.Disk
	u        *updater.Updater
	m        *model
	roots    [][]byte
	editions []*edition
	clock    int64
	last     updater.Status
	rots     bool // the disk's bytes may be changed by others
	told     map[string]int
}

func newWalk(t *testing.T, seed int64, rots bool) *walk {
	w := &walk{T: t, r: rand.New(rand.NewSource(seed)), d: newDisk(sectors), rots: rots, told: map[string]int{}}
	w.u = boot(t, w.d)
	w.m = newModel()
	w.publish()
	return w
}

// publish publishes a root now and then, and an edition, which most often is as it should be.
func (w *walk) publish() {
	r := w.r
	for r.Intn(3) == 0 && len(w.roots) < 6 {
		w.roots = append(w.roots, rootBytes(len(w.roots)+2, w.clock+50+r.Int63n(200)))
	}
	version := int64(1)
	if n := len(w.editions); n > 0 {
		version = w.editions[n-1].aim.Version + int64(1-r.Intn(8)/7)
	}
	x := spec{len(w.roots) + 1, version, w.clock + 20 + r.Int63n(300), []int{1000, 1024, 700, 2000 / 3}[r.Intn(4)], bundleOf('a'+byte(r.Intn(3)), r.Intn(3))}
	switch r.Intn(14) {
	case 0:
		x.root = max(1, x.root-1)
	case 1:
		x.bundle = bytes.Repeat([]byte("none"), 900)
	case 2:
		x.bundle = make([]byte, 64*room+1)
	case 3:
		x.expires = w.clock
	}
	w.editions = append(w.editions, edit(x))
}

// answer is what a mirror of the last editions answers, or something else.
func (w *walk) answer() []byte {
	r := w.r
	e := w.editions[len(w.editions)-1]
	if r.Intn(25) == 0 {
		e = w.editions[r.Intn(len(w.editions))]
	}
	want := w.u.Want()
	if r.Intn(30) == 0 {
		want.Kind = 1 + r.Intn(5)
	}
	if want.Kind == aChunk {
		want.Place = min(want.Place, e.count()-1)
	}
	b := mirror{w.roots, e}.answer(want)
	switch r.Intn(90) {
	case 0:
		return nil
	case 1:
		return b[:r.Intn(len(b)+1)]
	case 2:
		b = bytes.Clone(b)
		if len(b) > 0 {
			b[r.Intn(len(b))] ^= 1 << r.Intn(8)
		}
		return b
	case 3:
		return append(bytes.Clone(b), 0)
	case 4:
		return make([]byte, r.Intn(2*api.MaxMeta))
	}
	return b
}

// act is a call of chance, by the updater and by the model.
func (w *walk) act() {
	r := w.r
	w.clock += r.Int63n(3)
	clock := w.clock
	if r.Intn(8) == 0 {
		clock -= r.Int63n(20)
	}
	if r.Intn(25) == 0 {
		w.publish()
	}
	if w.rots && r.Intn(40) == 0 {
		w.rot()
	}
	if r.Intn(40) == 0 {
		w.bootAnew()
		return
	}
	before := *w.m
	cut := r.Intn(20) == 0
	if cut {
		done(w.T, w.d.Set(r.Intn(60), someBits(r, 60)))
	}
	var got, want api.Errno
	if w.u.Want().Kind == nothing && r.Intn(10) > 0 || r.Intn(30) == 0 {
		got, want = w.u.Begin(clock), w.m.begin(clock)
	} else {
		b := w.answer()
		got, want = w.u.Step(b, clock), w.m.step(b, clock)
	}
	w.told["error "+told(int(got))]++
	if got == api.ErrDown && cut {
		w.cut(before)
		return
	}
	if got != want {
		w.Fatalf("error %d, not %d, to what %v wants", got, want, before.want)
	}
	w.d.Start() // a stroke to which it did not come is set no more
}

// rot changes a byte of a slot, on the disk.
func (w *walk) rot() {
	slot, at := w.r.Intn(2), w.r.Intn(4000)
	place := 2*area + room*slot + at/64
	b := must(w.d.Read(place))
	b[at%64] ^= 1
	w.m.slots[slot] = bytes.Clone(w.m.slots[slot])
	w.m.slots[slot][at] ^= 1
	done(w.T, w.d.Write(place, b))
	done(w.T, w.d.Flush())
	w.told["rot"]++
}

// record is the store's record.
func (w *walk) record() []byte {
	return must(state.Write(stored(w.T, w.d)))
}

// bootAnew boots both.
func (w *walk) bootAnew() {
	w.d.Start()
	w.u = boot(w.T, w.d)
	w.m.boot(w.record())
	w.told["boot"]++
}

// cut finds out whether the model is that behind a call, or that ahead of it, whose power went.
func (w *walk) cut(before model) {
	w.d.Start()
	is := stored(w.T, w.d)
	after := *w.m
	if told(is) != told(after.s) {
		*w.m = before
		w.told["cut, ahead"]++
	} else {
		w.told["cut, behind"]++
	}
	// What was active ahead of a boot need not be so in the store, if others have changed its bytes.
	if !w.rots && told(is) != told(w.m.s) {
		w.Fatalf("the power went: the state is neither %s nor %s, but %s", brief(before.s), brief(after.s), brief(is))
	}
	for i := range w.m.slots { // a share of a chunk may be there, though no map tells of it
		w.m.slots[i] = w.d.Bytes()[64*(2*area+room*i):][:64*room]
	}
	w.bootAnew()
}

// hold holds the updater against the model.
func (w *walk) hold() {
	for _, clock := range []int64{0, w.clock, w.clock + w.r.Int63n(300)} {
		if s, want := must(w.u.Status(clock)), w.m.status(clock); s != want {
			w.Fatalf("Status: %v, not %v", s, want)
		}
	}
	if w.u.Want() != w.m.want {
		w.Fatalf("wants %v, not %v", w.u.Want(), w.m.want)
	}
	b, e := w.u.Active()
	l, s, late := w.u.Evidence()
	i := int(w.m.s.Active - 1)
	if i < 0 {
		if e != api.ErrNone || late != api.ErrNone || len(b)+len(l) > 0 {
			w.Fatalf("Active, Evidence: errors %d, %d", e, late)
		}
		return
	}
	if !bytes.HasPrefix(w.m.slots[i], b) || e != api.OK {
		w.Fatalf("Active: error %d, or other bytes", e)
	}
	if late != api.OK || told(s) != told(w.m.s.Slots[i]) || told(l) != told(w.m.s.Roots[:s.Roots]) {
		w.Fatalf("Evidence: error %d, or another slot", late)
	}
	w.told["served"]++
	if w.rots {
		return
	}
	// P15.5: the evidence alone leads to what is served.
	aim, e := state.Lead(must(state.Chain(pin(), l))[len(l)], s)
	if e != api.OK || !bytes.Equal(must(merkle.Of(b, aim.Chunk)), aim.Root) || int(aim.Size) != len(b) {
		w.Fatalf("the evidence does not lead to what is served: error %d", e)
	}
}

// rise tells of a version or a clock that falls.
func (w *walk) rise() {
	s := must(w.u.Status(0))
	for i, v := range s.Versions {
		if v < w.last.Versions[i] {
			w.Fatalf("versions fell from %v to %v", w.last.Versions, s.Versions)
		}
	}
	if s.Clock < w.last.Clock || !w.rots && s.Active < w.last.Active {
		w.Fatalf("from %v to %v", w.last, s)
	}
	w.last = s
}

// P15.2 to P15.7, P15.9: through calls of chance, losses of power and boots an updater does what the model does.
func TestWalks(t *testing.T) {
	t.Parallel()
	for seed := range int64(16) {
		t.Run("", func(t *testing.T) {
			t.Parallel()
			w := newWalk(t, seed, seed%4 == 3)
			for range 250 {
				w.act()
				w.hold()
				w.rise()
			}
			if w.told["served"] < 40 || w.told["boot"] == 0 || w.told["error 0"] < 80 {
				t.Errorf("this walk tells too little: %v", w.told)
			}
		})
	}
}

// P15.8
func TestStepsOfAnUpdate(t *testing.T) {
	t.Parallel()
	for _, roots := range []int{0, 1, 5, 15, 16} {
		m := mirror{rootsBehind(roots), usual(roots+1, 5)}
		for missing := range m.count() + 1 {
			var there []int
			for i := range m.count() - missing {
				there = append(there, i+missing/2)
			}
			s := state.State{Slots: [2]state.Slot{usual(1, 5).slot(0, there...)}}
			u := boot(t, diskOf(s, m.bundle))
			want := 4 + roots + missing
			if roots == api.MaxRoots { // no reply tells that there is none behind it
				want--
			}
			if n := update(t, u, m, 0); n != want {
				t.Errorf("%d roots, %d missing chunks: %d steps, not %d", roots, missing, n, want)
			}
			serves(t, "an update", u, m.edition, roots)
			want = 4
			if roots == api.MaxRoots {
				want--
			}
			if n := update(t, u, m, 0); n != want {
				t.Errorf("%d roots, nothing new: %d steps, not %d", roots, n, want)
			}
		}
	}
}

// W5: older ones, strangers' and those whose time has come are refused; keys are changed by roots.
func TestWhatIsRefused(t *testing.T) {
	d := newDisk(sectors)
	u := boot(t, d)
	x := usual(1, 5)
	update(t, u, mirror{nil, x}, 0)
	refused := func(what string, m mirror, clock int64, want api.Errno) {
		t.Helper()
		begin(t, u, clock)
		e := api.OK
		for e == api.OK && u.Want().Kind != nothing {
			e = u.Step(m.answer(u.Want()), clock)
		}
		if e != want {
			t.Errorf("%s: error %d, not %d", what, e, want)
		}
		b, e := u.Active()
		if e != api.OK || !bytes.Equal(b, x.bundle) {
			t.Errorf("%s: error %d, or another bundle is served", what, e)
		}
	}
	refused("an older one", mirror{nil, usual(1, 4)}, 0, api.ErrVersion)
	refused("a stranger's", mirror{nil, usual(2, 6)}, 0, api.ErrThreshold)
	refused("one that has expired", mirror{nil, edit(spec{1, 6, 40, 1000, x.bundle})}, 40, api.ErrExpired)
	refused("the old keys' one", mirror{rootsBehind(1), usual(1, 6)}, 0, api.ErrThreshold)
	x = usual(2, 6)
	update(t, u, mirror{rootsBehind(1), x}, 0)
	serves(t, "the new keys' one", u, x, 1)
}

// P15.10: readings of the clock below an earlier one do what that one does.
func TestReadingsThatFall(t *testing.T) {
	r := rand.New(rand.NewSource(5))
	for range 3 {
		d, twin := newDisk(sectors), newDisk(sectors)
		u, v := boot(t, d), boot(t, twin)
		clock := int64(0)
		for version := int64(1); version < 4; version++ {
			e := edit(spec{1, version, clock + 30 + r.Int63n(30), 1000, bundleOf('a', int(version))})
			for first := true; first || u.Want().Kind != nothing; first = false {
				reading := r.Int63n(40) * version
				clock = max(clock, reading)
				var a, b api.Errno
				if first {
					a, b = u.Begin(reading), v.Begin(clock)
				} else {
					reply := mirror{nil, e}.answer(u.Want())
					a, b = u.Step(reply, reading), v.Step(reply, clock)
				}
				if a != b || must(u.Status(reading)) != must(v.Status(clock)) || !bytes.Equal(d.Bytes(), twin.Bytes()) {
					t.Fatalf("at %d: error %d, at %d: error %d; or something else is another", reading, a, clock, b)
				}
			}
		}
	}
}

// Rule 3
func TestMemoryIsNotShared(t *testing.T) {
	m := mirror{rootsBehind(2), usual(3, 5)}
	d := newDisk(sectors)
	c := config()
	u := bootBy(t, d, c)
	clear(c.Pin)
	begin(t, u, 0)
	for u.Want().Kind != nothing {
		reply := m.answer(u.Want())
		room := append(make([]byte, 0, len(reply)+50), reply...)
		done(t, u.Step(room, 0))
		if !bytes.Equal(room, reply) || !bytes.Equal(room[len(reply):cap(room)], make([]byte, cap(room)-len(reply))) {
			t.Fatal("Step changes what is handed in, or what is behind it")
		}
		clear(room)
	}
	for range 2 {
		serves(t, "what was handed in is cleared", u, m.edition, 2)
		b, _ := u.Active()
		clear(b[:cap(b)])
		v, _ := u.Vocab()
		for _, x := range v.Tokens {
			clear(x.Bytes)
		}
		clear(v.Merges)
		l, s, _ := u.Evidence()
		for _, x := range append(slices.Clone(l), s.Stamp, s.Snap, s.Aim, s.Map) {
			clear(x[:cap(x)])
		}
		clear(l[:cap(l)])
	}
	next := mirror{rootsBehind(2), usual(3, 6)}
	update(t, u, next, 0)
	serves(t, "another one", u, next.edition, 2)
	serves(t, "booted", boot(t, d), next.edition, 2)
}

// Rule 5: an updater is no matter to another one on another disk.
func TestUpdatersAreApart(t *testing.T) {
	x, y := mirror{nil, usual(1, 5)}, mirror{rootsBehind(1), usual(2, 7)}
	d, e := newDisk(sectors), newDisk(sectors)
	u, v := boot(t, d), boot(t, e)
	begin(t, u, 3)
	begin(t, v, 8)
	for u.Want().Kind != nothing || v.Want().Kind != nothing {
		if u.Want().Kind != nothing {
			step(t, u, x, 3)
		}
		if v.Want().Kind != nothing {
			step(t, v, y, 8)
		}
	}
	serves(t, "one", u, x.edition, 0)
	serves(t, "the other", v, y.edition, 1)
	if a, b := must(u.Status(0)).Clock, must(v.Status(0)).Clock; a != 3 || b != 8 {
		t.Errorf("clocks %d and %d", a, b)
	}
}

// P1: arguments of chance on disks of chance.
func TestEveryCallEnds(t *testing.T) {
	t.Parallel()
	r := rand.New(rand.NewSource(6))
	m := mirror{rootsBehind(1), usual(2, 5)}
	some := append([]int{1, 2, 3, area, room, 1000, api.MaxBytes}, ends...)
	of := func() int { return some[r.Intn(len(some))] }
	good := diskOf(two(), usual(2, 8).bundle, usual(1, 7).bundle)
	booted := 0
	for range 400 {
		d := good.Copy()
		for range r.Intn(4) {
			b := make([]byte, api.Sector)
			r.Read(b)
			d.Write(r.Intn(sectors), b)
		}
		d.Flush()
		c := updater.Config{Pin: [][]byte{nil, pin(), rootBytes(2, 9), m.stampB}[r.Intn(4)], Limit: of(), Area: of(), Room: of()}
		if r.Intn(2) == 0 {
			c = config()
		}
		u, e := updater.Boot(d, c)
		if (u == nil) != (e != api.OK) {
			t.Fatalf("Boot: error %d, and an updater or none", e)
		}
		if u != nil {
			booted++
		}
		for range 12 {
			clock := int64(of())
			if r.Intn(3) > 0 {
				clock = 0
			}
			switch r.Intn(8) {
			case 0:
				u.Begin(clock)
			case 1:
				u.Status(int64(of()))
			case 2:
				u.Evidence()
				u.Vocab()
			case 3:
				d.Lose(someBits(r, 4))
				d.Start()
			default:
				b := m.answer(updater.Want{Kind: 1 + r.Intn(5), Version: 2, Place: r.Intn(5)})
				if w := u.Want(); w.Kind != nothing && r.Intn(4) > 0 {
					b = m.answer(w)
				}
				u.Step(b, clock)
			}
		}
	}
	if booted < 100 {
		t.Errorf("%d were booted", booted)
	}
}

// W3: of each role as many must sign as the root says; the next root by as many of the old one's, too.
func TestSoManyMustSign(t *testing.T) {
	root := func(version, need int64, seeds ...int) api.Root {
		x := api.Root{Version: version, Expires: lasts}
		for kind := range 4 {
			role := api.Role{Need: need}
			for _, v := range seeds {
				role.Keys = append(role.Keys, private(v, kind)[32:])
			}
			slices.SortFunc(role.Keys, bytes.Compare)
			x.Roles = append(x.Roles, role)
		}
		return x
	}
	bytesOf := func(x api.Root, seeds ...int) []byte {
		return sealed(api.RRoot, must(meta.WriteRoot(x)), seeds...)
	}
	c := config()
	c.Pin = bytesOf(root(1, 2, 1, 2, 3), 1, 3)
	d := newDisk(sectors)
	u := bootBy(t, d, c)
	tries := func(what string, few, enough []byte) {
		t.Helper()
		w := u.Want()
		fails(t, what+", too few", u, d, few, 0, api.ErrThreshold)
		for begin(t, u, 0); u.Want() != w; {
			done(t, u.Step(nil, 0)) // no more roots
		}
		done(t, u.Step(enough, 0))
	}
	next := root(2, 3, 3, 4, 5, 6)
	begin(t, u, 0)
	tries("one of the old root's", bytesOf(next, 3, 4, 5, 6), bytesOf(next, 1, 3, 4, 5))
	begin(t, u, 0)
	newest := root(3, 1, 9)
	tries("of the root behind it", bytesOf(newest, 3, 4, 9, 9), bytesOf(newest, 6, 5, 4, 9))
	wants(t, "two roots came", u, aRoot, 4, 0)
	done(t, u.Step(nil, 0))
	e := usual(9, 5)
	tries("a timestamp by the old seeds", sealed(api.RTimestamp, must(meta.WriteTimestamp(e.time)), 3, 4, 5, 6), e.stampB)
	update(t, u, mirror{[][]byte{bytesOf(next, 1, 3, 4, 5), bytesOf(newest, 6, 5, 4, 9)}, e}, 0)
	serves(t, "two roots came", u, e, 2)
}
