package roles_test

import (
	"fmt"
	"testing"

	"imprimatur/api"
	"imprimatur/roles"
)

// faults are some of the errors that a call may have, in their order.
type faults struct {
	of   []api.Errno
	some int // a binary digit for each that there is
}

// has tells whether an error is among them.
func (f faults) has(e api.Errno) bool {
	for i, x := range f.of {
		if x == e {
			return f.some>>i&1 == 1
		}
	}
	return false
}

// first is the one that is to be answered, OK if there is none.
func (f faults) first() api.Errno {
	for i, x := range f.of {
		if f.some>>i&1 == 1 {
			return x
		}
	}
	return api.OK
}

// sealed is a record's bytes with the faults that bytes may have.
func (f faults) sealed(record any, seeds ...int) []byte {
	kind, b := bodyOf(record)
	if f.has(api.ErrMeta) {
		b = b[:len(b)-1]
	}
	if f.has(api.ErrThreshold) {
		seeds = seeds[1:]
	}
	return bytesOf(signedOf(kind, b, seeds...))
}

// rule 1, P10.1, P10.2: of several errors the first one.
func TestOrderOfErrorsOfRoots(t *testing.T) {
	of := []api.Errno{api.ErrMeta, api.ErrThreshold}
	for some := range 1 << len(of) {
		f := faults{of, some}
		root := wholeOf(1).trust.Root
		got, e := roles.Pin(f.sealed(root, 1, 2))
		answered(t, fmt.Sprintf("Pin, faults %b", some), got, e, f.first(), roles.Trust{Root: root})
	}
	of = append(of, api.ErrVersion)
	for some := range 1 << len(of) {
		f := faults{of, some}
		trust := wholeOf(4).trust
		want := trust
		want.Root = wholeOf(5).trust.Root
		if f.has(api.ErrVersion) {
			want.Root.Version = 6
		}
		got, e := roles.Rotate(trust, f.sealed(want.Root, 1, 2))
		answered(t, fmt.Sprintf("Rotate, faults %b", some), got, e, f.first(), want)
	}
}

// rule 1, P10.3
func TestOrderOfErrorsOfStamp(t *testing.T) {
	const old = 1000 // the root's own ErrExpired, told apart from the record's
	of := []api.Errno{old, api.ErrMeta, api.ErrThreshold, api.ErrVersion, api.ErrExpired}
	for some := range 1 << len(of) {
		f := faults{of, some}
		trust := wholeOf(4).trust
		if f.has(old) {
			trust.Root.Expires = 10
		}
		r := wholeOf(5).trust.Time
		if f.has(api.ErrVersion) {
			r.Version = 3
		}
		if f.has(api.ErrExpired) {
			r.Expires = 10
		}
		expected := f.first()
		if expected == old {
			expected = api.ErrExpired
		}
		want := trust
		want.Time = r
		got, e := roles.Stamp(trust, f.sealed(r, 4), 10)
		answered(t, fmt.Sprintf("Stamp, faults %b", some), got, e, expected, want)
	}
}

// rule 1, P10.4, P10.5
func TestOrderOfErrorsOfSnapAndAim(t *testing.T) {
	const old = 1000
	of := []api.Errno{old, api.ErrOrder, api.ErrSize, api.ErrHash, api.ErrMeta, api.ErrThreshold, api.ErrVersion, api.ErrExpired}
	for _, s := range steps()[1:] {
		for some := range 1 << len(of) {
			f := faults{of, some}
			w := wholeOf(5)
			if f.has(old) {
				w.trust.Root.Expires = 10
			}
			r := s.expires(w, 50)
			if f.has(api.ErrExpired) {
				r = s.expires(w, 10)
			}
			b := f.sealed(r, s.seeds...)
			told := int64(5)
			if f.has(api.ErrVersion) {
				told = 6
			}
			trust := s.ahead(w, told, b)
			if f.has(api.ErrSize) {
				s.ref(&trust).Size++
			}
			if f.has(api.ErrHash) {
				s.ref(&trust).Hash[3]++
			}
			if f.has(api.ErrOrder) {
				without(&trust, s.kind-1)
			}
			expected := f.first()
			if expected == old {
				expected = api.ErrExpired
			}
			got, e := s.do(trust, b, 10)
			answered(t, fmt.Sprintf("%s, faults %b", s.name, some), got, e, expected, s.want(trust, r))
		}
	}
}

// without takes a record of a kind away.
func without(t *roles.Trust, kind int64) {
	switch kind {
	case api.RTimestamp:
		t.Time = api.Timestamp{}
	case api.RSnapshot:
		t.Snap = api.Snapshot{}
	}
}

// P10.3, P10.4, P10.5: a version that falls is told ahead of a time that has come.
func TestVersionsAheadOfTimes(t *testing.T) {
	trust := wholeOf(5).trust
	stamp := trust.Time
	stamp.Version, stamp.Expires = 4, 0
	got, e := roles.Stamp(trust, sealOf(stamp, 4), 0)
	refused(t, "Stamp, fallen and expired", got, e, api.ErrVersion)
	stamp.Version = 5
	got, e = roles.Stamp(trust, sealOf(stamp, 4), 0)
	refused(t, "Stamp, another one and expired", got, e, api.ErrVersion)
	snap := trust.Snap
	snap.Expires, snap.Targets.Version = 0, 4
	b := sealOf(snap, 5)
	trust.Time.Snapshot = refOf(5, b)
	got, e = roles.Snap(trust, b, 0)
	refused(t, "Snap, its targets record fallen, and expired", got, e, api.ErrVersion)
	aim := trust.Aim
	aim.Version, aim.Expires = 4, 0
	b = sealOf(aim, 6, 7)
	trust.Snap.Targets = refOf(4, b)
	got, e = roles.Aim(trust, b, 0)
	refused(t, "Aim, fallen and expired", got, e, api.ErrVersion)
}
