package roles_test

import (
	"bytes"
	"math"
	"math/rand"
	"slices"
	"testing"

	"imprimatur/api"
	"imprimatur/roles"
)

// walk is a row of calls of chance, most of which are of records that might be trusted.
type walk struct {
	r     *rand.Rand
	trust roles.Trust
	now   int64
}

// version is one near another one.
func (w *walk) version(near int64) int64 {
	return max(1, near+w.r.Int63n(4)-1)
}

// expires is a time that most often has not come.
func (w *walk) expires() int64 {
	return max(0, w.now+w.r.Int63n(60)-8)
}

// some are the seeds of chance that sign; most often enough.
func (w *walk) some(enough ...int) []int {
	if w.r.Intn(6) == 0 {
		return enough[1:]
	}
	return enough
}

// call is a call of chance: its answer, and what its record would be trusted as.
func (w *walk) call() (do func(now int64) (roles.Trust, api.Errno), want roles.Trust, expires int64) {
	trust := w.trust
	want = trust
	stepped := steps()
	switch kind := w.r.Intn(4); kind {
	case api.RRoot:
		r := rootOf(w.version(trust.Root.Version), w.expires()+100, fourRoles()...)
		b := sealOf(r, w.some(1, 2)...)
		want.Root = r
		return func(int64) (roles.Trust, api.Errno) { return roles.Rotate(trust, b) }, want, math.MaxInt64
	case api.RTimestamp:
		r := trust.Time
		if r.Version == 0 || w.r.Intn(4) > 0 {
			ref := api.Ref{Version: w.version(trust.Time.Snapshot.Version), Size: 1, Hash: hash(1)}
			r = api.Timestamp{Version: w.version(trust.Time.Version), Expires: w.expires(), Snapshot: ref}
		}
		b := sealOf(r, w.some(4)...)
		want.Time = r
		return func(now int64) (roles.Trust, api.Errno) { return stepped[0].do(trust, b, now) }, want, r.Expires
	case api.RSnapshot:
		ref := api.Ref{Version: w.version(trust.Snap.Targets.Version), Size: 1, Hash: hash(1)}
		r := api.Snapshot{Version: trust.Time.Snapshot.Version, Expires: w.expires(), Targets: ref}
		if w.r.Intn(4) == 0 || r.Version == 0 {
			r.Version = w.version(r.Version)
		}
		b := sealOf(r, w.some(5)...)
		if trust.Time.Version > 0 { // as if the timestamp had told of it
			trust.Time.Snapshot = refOf(trust.Time.Snapshot.Version, b)
			want.Time.Snapshot = trust.Time.Snapshot
		}
		want.Snap = r
		return func(now int64) (roles.Trust, api.Errno) { return stepped[1].do(trust, b, now) }, want, r.Expires
	default:
		r := api.Targets{Version: trust.Snap.Targets.Version, Expires: w.expires(), Size: 5, Chunk: 64, Root: hash(2)}
		if w.r.Intn(4) == 0 || r.Version == 0 {
			r.Version = w.version(r.Version)
		}
		b := sealOf(r, w.some(6, 7)...)
		if trust.Snap.Version > 0 {
			trust.Snap.Targets = refOf(trust.Snap.Targets.Version, b)
			want.Snap.Targets = trust.Snap.Targets
		}
		want.Aim = r
		return func(now int64) (roles.Trust, api.Errno) { return stepped[2].do(trust, b, now) }, want, r.Expires
	}
}

// P10.6, P10.7, P10.9: through calls of chance no version falls, what has expired stays so, and what is trusted has just the record in its place.
func TestWalks(t *testing.T) {
	trusts, expiries := 0, 0
	for i := range 40 {
		w := &walk{r: rand.New(rand.NewSource(int64(i))), trust: roles.Trust{Root: wholeOf(1).trust.Root}}
		for range 60 {
			w.now += w.r.Int63n(3)
			do, want, expires := w.call()
			before := told(w.trust)
			got, e := do(w.now)
			if told(w.trust) != before {
				t.Fatalf("a call changed what it was handed")
			}
			if e != api.OK {
				refused(t, "a call of chance", got, e, e)
				if e == api.ErrExpired {
					expiries++
					staysExpired(t, do, w.now)
				}
				continue
			}
			trusts++
			trusted(t, "a call of chance", got, e, want)
			old, now := roles.Versions(w.trust), roles.Versions(got)
			for k := range old {
				if now[k] < old[k] {
					t.Fatalf("versions fell from %v to %v", old, now)
				}
			}
			if now[api.RRoot] == old[api.RRoot] {
				for _, later := range []int64{min(expires, w.trust.Root.Expires), most, math.MaxInt64} {
					got, e := do(later)
					refused(t, "later", got, e, api.ErrExpired)
				}
			}
			w.trust = got
		}
	}
	if trusts < 400 || expiries < 40 {
		t.Errorf("%d were trusted, %d had expired: these walks tell too little", trusts, expiries)
	}
}

// staysExpired tells of a call that is not refused so at later times.
func staysExpired(t *testing.T, do func(int64) (roles.Trust, api.Errno), now int64) {
	t.Helper()
	for _, more := range []int64{0, 1, 2, 60, 1000, most} {
		got, e := do(now + more)
		refused(t, "what had expired, later", got, e, api.ErrExpired)
	}
}

// P10.8: of records, too, in which order signatures stand plays no part.
func TestOrderOfSignaturesOfRecords(t *testing.T) {
	r := rand.New(rand.NewSource(3))
	for range 30 {
		w := wholeOf(1)
		mix := func(seeds ...int) []int {
			seeds = append(seeds, 90, 91, seeds[r.Intn(len(seeds))], 92)
			r.Shuffle(len(seeds), func(i, j int) { seeds[i], seeds[j] = seeds[j], seeds[i] })
			return seeds
		}
		got, e := roles.Pin(sealOf(w.trust.Root, mix(1, 3)...))
		trusted(t, "Pin", got, e, roles.Trust{Root: w.trust.Root})
		got, e = roles.Pin(sealOf(w.trust.Root, mix(2)...))
		refused(t, "Pin", got, e, api.ErrThreshold)
		next := w.trust
		next.Root.Version = 2
		got, e = roles.Rotate(w.trust, sealOf(next.Root, mix(2, 3)...))
		trusted(t, "Rotate", got, e, next)
		for _, s := range steps() {
			record := s.version(w, 1)
			b := sealOf(record, mix(s.seeds...)...)
			trust := s.ahead(w, 1, b)
			got, e := s.do(trust, b, 0)
			trusted(t, s.name, got, e, s.want(trust, record))
		}
		b := sealOf(w.trust.Aim, mix(6)...)
		trust := w.trust
		trust.Snap.Targets = refOf(1, b)
		got, e = roles.Aim(trust, b, 0)
		refused(t, "Aim", got, e, api.ErrThreshold)
	}
}

// P1: trusts and bytes of all sorts.
func TestEveryCallEnds(t *testing.T) {
	r := rand.New(rand.NewSource(4))
	w := wholeOf(2)
	number := func() int64 {
		return []int64{0, 1, 2, 3, -1, math.MinInt64, math.MaxInt64, most, most + 1}[r.Intn(9)]
	}
	role := func() api.Role {
		return []api.Role{{}, {Need: number()}, {Keys: make([][]byte, 3), Need: number()}, roleOf(number(), 1, 2, 4, 5, 6, 7)}[r.Intn(4)]
	}
	ref := func(b []byte) api.Ref {
		return []api.Ref{{}, {Version: number(), Size: number(), Hash: make([]byte, r.Intn(40))}, refOf(number(), b)}[r.Intn(3)]
	}
	pieces := [][]byte{nil, {3}, w.root, w.stamp, w.snap, w.aim, make([]byte, api.MaxMeta+1), make([]byte, api.MaxHash+1)}
	for range 3000 {
		trust := w.trust
		if r.Intn(3) > 0 {
			trust.Root = api.Root{Version: number(), Expires: number()}
			for range r.Intn(6) {
				trust.Root.Roles = append(trust.Root.Roles, role())
			}
		}
		trust.Time = api.Timestamp{Version: number(), Expires: number(), Snapshot: ref(w.snap)}
		trust.Snap = api.Snapshot{Version: number(), Expires: number(), Targets: ref(w.aim)}
		trust.Aim = api.Targets{Version: number(), Expires: number(), Size: number(), Chunk: number(), Root: make([]byte, r.Intn(40))}
		b := pieces[r.Intn(len(pieces))]
		if r.Intn(3) == 0 && len(b) > 0 {
			b = bytes.Clone(b)
			b[r.Intn(len(b))] ^= byte(1 + r.Intn(255))
		}
		anyway(t, trust, b, number())
	}
	for _, b := range append(pieces, someBytes(r, 300)) {
		for _, now := range times {
			anyway(t, roles.Trust{}, b, now)
		}
	}
}

// anyway makes all calls: an error has nothing beside it, whatever is handed in.
func anyway(t *testing.T, trust roles.Trust, b []byte, now int64) {
	t.Helper()
	before, bytesBefore := told(trust), bytes.Clone(b)
	for _, do := range []func() (roles.Trust, api.Errno){
		func() (roles.Trust, api.Errno) { return roles.Pin(b) },
		func() (roles.Trust, api.Errno) { return roles.Rotate(trust, b) },
		func() (roles.Trust, api.Errno) { return roles.Stamp(trust, b, now) },
		func() (roles.Trust, api.Errno) { return roles.Snap(trust, b, now) },
		func() (roles.Trust, api.Errno) { return roles.Aim(trust, b, now) },
	} {
		got, e := do()
		if e != api.OK && told(got) != told(roles.Trust{}) {
			t.Errorf("error %d with a trust beside it", e)
		}
		if e == api.OK && bytes.Equal(b, make([]byte, len(b))) {
			t.Errorf("zeros are trusted")
		}
	}
	roles.Fresh(trust, now)
	roles.Versions(trust)
	for _, r := range trust.Root.Roles {
		roles.Enough(r, api.Signed{Kind: now, Body: b, Sigs: make([]api.Sig, 2)})
	}
	if told(trust) != before || !bytes.Equal(b, bytesBefore) {
		t.Error("what is handed in is changed")
	}
}

// lists are all lists of bytes in a trust.
func lists(t *roles.Trust) [][]byte {
	l := [][]byte{t.Time.Snapshot.Hash, t.Snap.Targets.Hash, t.Aim.Root}
	for _, r := range t.Root.Roles {
		l = append(l, r.Keys...)
	}
	return l
}

// spoil changes all the memory that a trust has, beyond its lists' ends, too.
func spoil(t *roles.Trust) {
	for _, b := range lists(t) {
		b = b[:cap(b)]
		for i := range b {
			b[i] ^= 255
		}
	}
	for i := range t.Root.Roles {
		keys := t.Root.Roles[i].Keys
		clear(keys[:cap(keys)])
	}
	clear(t.Root.Roles[:cap(t.Root.Roles)])
}

// calls are all calls that answer a trust, on one trust.
func calls(w whole) map[string]func(roles.Trust) (roles.Trust, api.Errno) {
	next := sealOf(rootOf(w.trust.Root.Version+1, 50, fourRoles()...), 1, 2)
	return map[string]func(roles.Trust) (roles.Trust, api.Errno){
		"Pin":    func(roles.Trust) (roles.Trust, api.Errno) { return roles.Pin(w.root) },
		"Rotate": func(t roles.Trust) (roles.Trust, api.Errno) { return roles.Rotate(t, next) },
		"Stamp":  func(t roles.Trust) (roles.Trust, api.Errno) { return roles.Stamp(t, w.stamp, 0) },
		"Snap":   func(t roles.Trust) (roles.Trust, api.Errno) { return roles.Snap(t, w.snap, 0) },
		"Aim":    func(t roles.Trust) (roles.Trust, api.Errno) { return roles.Aim(t, w.aim, 0) },
	}
}

// rule 3: what is answered shares nothing with what was handed in.
func TestAnswersAreNewMemory(t *testing.T) {
	for name, do := range calls(wholeOf(1)) {
		w := wholeOf(1)
		got, e := do(w.trust)
		want := told(got)
		if e != api.OK {
			t.Fatalf("%s: error %d", name, e)
		}
		spoil(&w.trust)
		if told(got) != want {
			t.Errorf("%s: what was handed in is kept", name)
		}
		w = wholeOf(1)
		got, _ = do(w.trust)
		spoil(&got)
		if told(w.trust) != told(wholeOf(1).trust) {
			t.Errorf("%s: what is answered is a part of what was handed in", name)
		}
		if got, _ = do(w.trust); told(got) != want {
			t.Errorf("%s: what is answered is handed out twice", name)
		}
	}
	w := wholeOf(1)
	b := bytes.Clone(w.root)
	got, _ := roles.Pin(b)
	clear(b)
	trusted(t, "Pin of bytes that are changed then", got, api.OK, roles.Trust{Root: w.trust.Root})
	for _, s := range steps() {
		r := s.version(w, 1)
		b := sealOf(r, s.seeds...)
		trust := s.ahead(w, 1, b)
		got, e := s.do(trust, b, 0)
		clear(b)
		trusted(t, s.name+" of bytes that are changed then", got, e, s.want(trust, r))
	}
}

// rule 3: no two lists of one answer share memory, though those of what was handed in do.
func TestListsOfAnswersShareNothing(t *testing.T) {
	for name, do := range calls(wholeOf(1)) {
		w := wholeOf(1)
		shared := roleOf(1, 1, 2, 4, 5, 6, 7)
		w.trust.Root.Roles = slices.Repeat([]api.Role{shared}, 4)
		one := w.trust.Time.Snapshot.Hash
		if name == "Aim" {
			one = w.trust.Snap.Targets.Hash // what it is asked for by
		}
		w.trust.Time.Snapshot.Hash, w.trust.Snap.Targets.Hash, w.trust.Aim.Root = one, one, one
		got, e := do(w.trust)
		if e != api.OK {
			t.Fatalf("%s: error %d", name, e)
		}
		l := lists(&got)
		for i, b := range l {
			if len(b) == 0 {
				continue
			}
			rest := slices.Concat(l[:i], l[i+1:])
			before := bytes.Join(rest, nil)
			b = b[:cap(b)]
			for j := range b {
				b[j] ^= 255
			}
			if !bytes.Equal(bytes.Join(rest, nil), before) {
				t.Errorf("%s: two lists of an answer share memory", name)
			}
		}
	}
}
