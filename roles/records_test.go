package roles_test

import (
	"bytes"
	"fmt"
	"math"
	"testing"

	"imprimatur/api"
	"imprimatur/roles"
)

// step is one of the three calls that trust a record at a time.
type step struct {
	name    string
	kind    int64
	do      func(roles.Trust, []byte, int64) (roles.Trust, api.Errno)
	seeds   []int // that are just enough
	ref     func(*roles.Trust) *api.Ref
	version func(whole, int64) any             // the record of a whole with another version
	expires func(whole, int64) any             // with another expiry
	want    func(roles.Trust, any) roles.Trust // the trust with a record in its place
}

func steps() []step {
	return []step{
		{
			name: "Stamp", kind: api.RTimestamp, do: roles.Stamp, seeds: []int{4},
			version: func(w whole, v int64) any { w.trust.Time.Version = v; return w.trust.Time },
			expires: func(w whole, x int64) any { w.trust.Time.Expires = x; return w.trust.Time },
			want:    func(t roles.Trust, r any) roles.Trust { t.Time = r.(api.Timestamp); return t },
		},
		{
			name: "Snap", kind: api.RSnapshot, do: roles.Snap, seeds: []int{5},
			ref:     func(t *roles.Trust) *api.Ref { return &t.Time.Snapshot },
			version: func(w whole, v int64) any { w.trust.Snap.Version = v; return w.trust.Snap },
			expires: func(w whole, x int64) any { w.trust.Snap.Expires = x; return w.trust.Snap },
			want:    func(t roles.Trust, r any) roles.Trust { t.Snap = r.(api.Snapshot); return t },
		},
		{
			name: "Aim", kind: api.RTargets, do: roles.Aim, seeds: []int{6, 7},
			ref:     func(t *roles.Trust) *api.Ref { return &t.Snap.Targets },
			version: func(w whole, v int64) any { w.trust.Aim.Version = v; return w.trust.Aim },
			expires: func(w whole, x int64) any { w.trust.Aim.Expires = x; return w.trust.Aim },
			want:    func(t roles.Trust, r any) roles.Trust { t.Aim = r.(api.Targets); return t },
		},
	}
}

// ahead is the trust of a whole's root and what is ahead of a step, that refers to bytes of a version.
func (s step) ahead(w whole, version int64, b []byte) roles.Trust {
	t := roles.Trust{Root: w.trust.Root}
	if s.kind > api.RTimestamp {
		t.Time = w.trust.Time
	}
	if s.kind > api.RSnapshot {
		t.Snap = w.trust.Snap
	}
	s.refer(&t, version, b)
	return t
}

// refer makes a trust refer to bytes of a version.
func (s step) refer(t *roles.Trust, version int64, b []byte) {
	if s.ref != nil {
		*s.ref(t) = refOf(version, b)
	}
}

// P10.3, P10.4, P10.5: one behind the other, as a repository has them; and once more, and the ones behind them.
func TestRecordsInOrder(t *testing.T) {
	trust := roles.Trust{Root: wholeOf(1).trust.Root}
	for version := int64(1); version <= 3; version++ {
		w := wholeOf(version)
		for _, b := range []struct {
			step  step
			bytes []byte
			r     any
		}{
			{steps()[0], w.stamp, w.trust.Time},
			{steps()[1], w.snap, w.trust.Snap},
			{steps()[2], w.aim, w.trust.Aim},
		} {
			for range 2 {
				want := b.step.want(trust, b.r)
				got, e := b.step.do(trust, b.bytes, 49)
				trusted(t, b.step.name, got, e, want)
				trust = got
			}
		}
	}
	if v := roles.Versions(trust); v != [4]int64{1, 3, 3, 3} {
		t.Error("Versions", v)
	}
}

// P10.3, P10.4, P10.5, P10.7: neither the root nor the record may have expired; a time that is just as far has come.
func TestTimes(t *testing.T) {
	for _, s := range steps() {
		for _, rootExpires := range []int64{0, 1, 50, 51, most} {
			for _, expires := range []int64{0, 1, 50, 51, most} {
				w := wholeOf(1)
				w.trust.Root.Expires = rootExpires
				r := s.expires(w, expires)
				b := sealOf(r, s.seeds...)
				trust := s.ahead(w, 1, b)
				// Whether what is ahead of it has expired plays no part.
				trust.Time.Expires, trust.Snap.Expires = 0, 0
				for _, now := range times {
					want := api.OK
					if rootExpires <= now || expires <= now {
						want = api.ErrExpired
					}
					got, e := s.do(trust, b, now)
					answered(t, fmt.Sprintf("%s at %d, the root expiring at %d, the record at %d", s.name, now, rootExpires, expires), got, e, want, s.want(trust, r))
				}
			}
		}
	}
}

// P10.3, P10.4, P10.5: what is no record of that kind.
func TestNoRecords(t *testing.T) {
	for _, s := range steps() {
		w := wholeOf(1)
		all := []int{1, 2, 3, 4, 5, 6, 7}
		records := []any{w.trust.Root, w.trust.Time, w.trust.Snap, w.trust.Aim}
		_, body := bodyOf(records[s.kind])
		good := sealOf(records[s.kind], s.seeds...)
		none := map[string][]byte{
			"no bytes":                nil,
			"zeros":                   make([]byte, 100),
			"the record alone":        body,
			"cut off":                 good[:len(good)-1],
			"with more behind":        append(bytes.Clone(good), 0),
			"no body":                 bytesOf(signedOf(s.kind, nil, all...)),
			"a body cut off":          bytesOf(signedOf(s.kind, body[:len(body)-1], all...)),
			"a body with more behind": bytesOf(signedOf(s.kind, append(bytes.Clone(body), 0), all...)),
			"a Signed in a Signed":    bytesOf(signedOf(s.kind, good, all...)),
			"far too many bytes":      make([]byte, api.MaxHash),
		}
		for kind := range int64(4) {
			name := fmt.Sprint(" of the kind ", kind)
			if kind != s.kind {
				none["a record"+name] = sealOf(records[kind], all...)
				none["its body as one"+name] = bytesOf(signedOf(kind, body, all...))
			}
			_, other := bodyOf(records[kind])
			if kind == api.RRoot || kind != s.kind && kind+s.kind != api.RTimestamp+api.RSnapshot { // these two are written alike
				none["the body of one"+name] = bytesOf(signedOf(s.kind, other, all...))
			}
		}
		for name, b := range none {
			got, e := s.do(s.ahead(w, 1, b), b, 0)
			refused(t, s.name+", "+name, got, e, api.ErrMeta)
		}
		got, e := s.do(s.ahead(w, 1, good), good, 0)
		trusted(t, s.name, got, e, s.want(s.ahead(w, 1, good), records[s.kind]))
	}
}

// W3: by the keys of the role of that kind, and as many as must.
func TestThresholds(t *testing.T) {
	for _, s := range steps() {
		w := wholeOf(1)
		r := s.version(w, 1)
		for need := int64(1); need <= 3; need++ {
			for signers := range 1 << 5 {
				var seeds []int
				have := int64(0)
				for i := range 5 {
					if signers>>i&1 == 1 {
						seeds = append(seeds, 20+i)
					}
				}
				for i := range 3 {
					have += int64(signers >> i & 1)
				}
				// The other two are the other roles' keys.
				w.trust.Root.Roles = []api.Role{roleOf(1, 23), roleOf(1, 23, 24), roleOf(1, 23, 24), roleOf(1, 24)}
				w.trust.Root.Roles[s.kind] = roleOf(need, 20, 21, 22)
				b := sealOf(r, seeds...)
				want := api.OK
				if have < need {
					want = api.ErrThreshold
				}
				trust := s.ahead(w, 1, b)
				got, e := s.do(trust, b, 0)
				answered(t, s.name, got, e, want, s.want(trust, r))
			}
		}
	}
}

// A root that has not the role has one that nothing is enough for.
func TestRootsWithoutTheRole(t *testing.T) {
	for _, s := range steps() {
		w := wholeOf(1)
		r := s.version(w, 1)
		b := sealOf(r, 1, 2, 3, 4, 5, 6, 7)
		full := w.trust.Root.Roles
		for n := range 5 {
			for _, l := range [][]api.Role{full[:n], make([]api.Role, n)} { // the latter need nobody
				w.trust.Root.Roles = l
				want := api.OK
				if n <= int(s.kind) {
					want = api.ErrThreshold
				}
				trust := s.ahead(w, 1, b)
				got, e := s.do(trust, b, 0)
				answered(t, fmt.Sprintf("%s by a root of %d roles", s.name, n), got, e, want, s.want(trust, r))
			}
		}
		w.trust.Root.Roles = append(full, roleOf(1, 9))
		trust := s.ahead(w, 1, b)
		got, e := s.do(trust, b, 0)
		trusted(t, s.name+" by a root of five roles", got, e, s.want(trust, r))
	}
}

// P10.3: neither the timestamp's version nor its snapshot's falls.
func TestStampVersions(t *testing.T) {
	trust := wholeOf(5).trust
	trust.Time.Snapshot.Version = 7
	for v := int64(1); v <= 8; v++ {
		for snapshot := int64(4); snapshot <= 9; snapshot++ {
			r := trust.Time
			r.Version, r.Snapshot.Version = v, snapshot
			want := api.OK
			if v < 5 || snapshot < 7 || v == 5 && snapshot != 7 {
				want = api.ErrVersion
			}
			after := trust
			after.Time = r
			got, e := roles.Stamp(trust, sealOf(r, 4), 0)
			answered(t, fmt.Sprintf("Stamp of %d, snapshot %d", v, snapshot), got, e, want, after)
		}
	}
	for _, v := range []int64{1, most - 1, most} {
		r := trust.Time
		r.Version, r.Snapshot.Version = v, most
		got, e := roles.Stamp(roles.Trust{Root: trust.Root}, sealOf(r, 4), 0)
		trusted(t, "Stamp without one yet", got, e, roles.Trust{Root: trust.Root, Time: r})
	}
}

// P10.3: of one version there is one timestamp, however it is signed.
func TestStampTwice(t *testing.T) {
	trust := wholeOf(5).trust
	trust.Root.Roles[api.RTimestamp] = roleOf(1, 4, 8)
	for _, seeds := range [][]int{{4}, {8}, {8, 4}, {4, 4, 99}} {
		got, e := roles.Stamp(trust, sealOf(trust.Time, seeds...), 0)
		trusted(t, "the same one", got, e, trust)
	}
	for name, change := range map[string]func(*api.Timestamp){
		"expiry, later":                func(r *api.Timestamp) { r.Expires++ },
		"expiry, earlier":              func(r *api.Timestamp) { r.Expires-- },
		"expiry, in the past":          func(r *api.Timestamp) { r.Expires = 0 },
		"snapshot's version":           func(r *api.Timestamp) { r.Snapshot.Version++ },
		"snapshot's version, far":      func(r *api.Timestamp) { r.Snapshot.Version = most },
		"snapshot's size":              func(r *api.Timestamp) { r.Snapshot.Size++ },
		"snapshot's size, less":        func(r *api.Timestamp) { r.Snapshot.Size-- },
		"snapshot's first byte":        func(r *api.Timestamp) { r.Snapshot.Hash[0]++ },
		"snapshot's last byte":         func(r *api.Timestamp) { r.Snapshot.Hash[31]++ },
		"snapshot's size, by all bits": func(r *api.Timestamp) { r.Snapshot.Size += 1 << 32 },
	} {
		r := trust.Time
		r.Snapshot.Hash = bytes.Clone(r.Snapshot.Hash)
		change(&r)
		got, e := roles.Stamp(trust, sealOf(r, 4), 0)
		refused(t, "another one's "+name, got, e, api.ErrVersion)
		r.Version++
		if r.Expires > 0 {
			want := trust
			want.Time = r
			got, e = roles.Stamp(trust, sealOf(r, 4), 0)
			trusted(t, "the next version's "+name, got, e, want)
		}
	}
}

// P10.4: the snapshot's version is that of the Ref, and neither it nor that of its targets record falls.
func TestSnapVersions(t *testing.T) {
	for _, first := range []bool{false, true} {
		for told := int64(3); told <= 7; told++ {
			for v := int64(3); v <= 7; v++ {
				for targets := int64(5); targets <= 9; targets++ {
					trust := wholeOf(5).trust
					trust.Snap.Targets.Version = 7
					want := api.OK
					if v != told || v < 5 || targets < 7 {
						want = api.ErrVersion
					}
					if first {
						trust.Snap = api.Snapshot{}
						want = api.OK
						if v != told {
							want = api.ErrVersion
						}
					}
					r := api.Snapshot{Version: v, Expires: 9, Targets: api.Ref{Version: targets, Size: 3, Hash: hash(4)}}
					b := sealOf(r, 5)
					trust.Time.Snapshot = refOf(told, b)
					after := trust
					after.Snap = r
					got, e := roles.Snap(trust, b, 0)
					answered(t, fmt.Sprintf("Snap of %d, targets %d, told %d", v, targets, told), got, e, want, after)
				}
			}
		}
	}
}

// P10.5: the targets record's version is that of the Ref, and does not fall.
func TestAimVersions(t *testing.T) {
	for _, at := range []int64{0, 5} {
		for told := int64(3); told <= 7; told++ {
			for v := int64(3); v <= 7; v++ {
				trust := wholeOf(9).trust
				trust.Aim = api.Targets{Version: at, Expires: at, Size: at}
				want := api.OK
				if v != told || v < at {
					want = api.ErrVersion
				}
				r := api.Targets{Version: v, Expires: 9, Size: 1, Chunk: 64, Root: hash(4)}
				b := sealOf(r, 6, 7)
				trust.Snap.Targets = refOf(told, b)
				after := trust
				after.Aim = r
				got, e := roles.Aim(trust, b, 0)
				answered(t, fmt.Sprintf("Aim of %d, told %d, at %d", v, told, at), got, e, want, after)
			}
		}
	}
}

// P10.4, P10.5: the greatest versions.
func TestGreatestVersions(t *testing.T) {
	for _, s := range steps() {
		for _, v := range []int64{1, 1 << 32, most - 1, most} {
			w := wholeOf(1)
			r := s.version(w, v)
			b := sealOf(r, s.seeds...)
			trust := s.ahead(w, v, b)
			got, e := s.do(trust, b, 0)
			trusted(t, s.name, got, e, s.want(trust, r))
		}
	}
}

// P10.4, P10.5: nothing without what is ahead of it, whatever else there is.
func TestOrder(t *testing.T) {
	w := wholeOf(1)
	for _, b := range [][]byte{nil, w.root, w.stamp, w.snap, w.aim} {
		for _, now := range []int64{math.MinInt64, -1, 0, 49} {
			trust := w.trust
			trust.Time = api.Timestamp{}
			got, e := roles.Snap(trust, b, now)
			refused(t, "Snap without a timestamp", got, e, api.ErrOrder)
			trust = w.trust
			trust.Snap = api.Snapshot{}
			got, e = roles.Aim(trust, b, now)
			refused(t, "Aim without a snapshot", got, e, api.ErrOrder)
			trust = roles.Trust{Root: w.trust.Root}
			got, e = roles.Aim(trust, b, now)
			refused(t, "Aim with a root alone", got, e, api.ErrOrder)
		}
	}
	// Its own timestamp is nothing that a targets record needs.
	trust := w.trust
	trust.Time = api.Timestamp{}
	got, e := roles.Aim(trust, w.aim, 0)
	trusted(t, "Aim without a timestamp", got, e, trust)
}

// P10.4, P10.5: just so many bytes, with just that digest.
func TestSizesAndDigests(t *testing.T) {
	for _, s := range steps()[1:] {
		w := wholeOf(1)
		r := s.version(w, 1)
		b := sealOf(r, s.seeds...)
		for _, more := range []int64{-int64(len(b)), -1, 1, 1 << 32, most, math.MinInt64} {
			trust := s.ahead(w, 1, b)
			s.ref(&trust).Size += more
			got, e := s.do(trust, b, 0)
			refused(t, s.name+" of another size", got, e, api.ErrSize)
		}
		for i := range 32 {
			trust := s.ahead(w, 1, b)
			s.ref(&trust).Hash[i] ^= 1 << (i % 8)
			got, e := s.do(trust, b, 0)
			refused(t, s.name+" of another digest", got, e, api.ErrHash)
		}
		good := refOf(1, b).Hash
		for _, h := range [][]byte{nil, {}, good[:31], append(bytes.Clone(good), 0), make([]byte, 32)} {
			trust := s.ahead(w, 1, b)
			s.ref(&trust).Hash = h
			got, e := s.do(trust, b, 0)
			refused(t, s.name+" of no digest", got, e, api.ErrHash)
		}
		for i := range b {
			spoilt := bytes.Clone(b)
			spoilt[i] ^= 4
			got, e := s.do(s.ahead(w, 1, b), spoilt, 0)
			refused(t, s.name+" of other bytes", got, e, api.ErrHash)
		}
		// The same record, signed otherwise, has other bytes.
		other := sealOf(r, append([]int{99}, s.seeds...)...)
		got, e := s.do(s.ahead(w, 1, b), other, 0)
		refused(t, s.name+" of more bytes", got, e, api.ErrSize)
		trust := s.ahead(w, 1, other)
		got, e = s.do(trust, other, 0)
		trusted(t, s.name, got, e, s.want(trust, r))
		// What is too long to be digested has no digest.
		long := make([]byte, api.MaxHash+1)
		for _, h := range [][]byte{nil, good} {
			trust = s.ahead(w, 1, b)
			*s.ref(&trust) = api.Ref{Version: 1, Size: int64(len(long)), Hash: h}
			got, e = s.do(trust, long, 0)
			refused(t, s.name+" of too many bytes", got, e, api.ErrHash)
		}
	}
}
