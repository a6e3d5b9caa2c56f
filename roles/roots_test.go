package roles_test

import (
	"bytes"
	"math"
	"testing"

	"imprimatur/api"
	"imprimatur/meta"
	"imprimatur/roles"
)

// noRoots are bytes in which there is no root, though some are signed by all.
func noRoots() map[string][]byte {
	w := wholeOf(1)
	_, body := bodyOf(w.trust.Root)
	_, stamp := bodyOf(w.trust.Time)
	_, aim := bodyOf(w.trust.Aim)
	all := []int{1, 2, 3, 4, 5, 6, 7}
	none := map[string][]byte{
		"no bytes":                    nil,
		"a zero":                      {0},
		"the record alone":            body,
		"cut off":                     w.root[:len(w.root)-1],
		"with more behind":            append(bytes.Clone(w.root), 0),
		"a timestamp":                 w.stamp,
		"a snapshot":                  w.snap,
		"a targets record":            w.aim,
		"no body":                     bytesOf(signedOf(0, nil, all...)),
		"a body cut off":              bytesOf(signedOf(0, body[:len(body)-1], all...)),
		"a body with more behind":     bytesOf(signedOf(0, append(bytes.Clone(body), 0), all...)),
		"a timestamp's body":          bytesOf(signedOf(0, stamp, all...)),
		"a targets record's body":     bytesOf(signedOf(0, aim, all...)),
		"a Signed's body":             bytesOf(signedOf(0, w.stamp, all...)),
		"far too many bytes":          make([]byte, 1<<20+1),
		"more than a Signed may have": append(bytes.Clone(w.root), make([]byte, api.MaxMeta)...),
	}
	for kind := int64(1); kind < 4; kind++ {
		none["a root's body as another kind"+string(rune('0'+kind))] = bytesOf(signedOf(kind, body, all...))
	}
	return none
}

// P10.1: the example.
func TestExample(t *testing.T) {
	root := rootOf(3, 50, roleOf(1, 1), roleOf(1, 1), roleOf(1, 1), roleOf(1, 1))
	pin, e := roles.Pin(sealOf(root, 1))
	trusted(t, "Pin", pin, e, roles.Trust{Root: root})
	if v := roles.Versions(pin); v != [4]int64{3, 0, 0, 0} {
		t.Error("Versions", v)
	}
	for _, now := range []int64{math.MinInt64, -1, 0, 49} {
		got, e := roles.Snap(pin, nil, now)
		refused(t, "Snap", got, e, api.ErrOrder)
	}
	for _, now := range []int64{50, 51, math.MaxInt64} {
		got, e := roles.Snap(pin, nil, now)
		refused(t, "Snap", got, e, api.ErrExpired)
	}
}

// P10.1
func TestPin(t *testing.T) {
	for _, version := range []int64{1, 2, 1000, most} {
		for _, expires := range []int64{0, 1, most} {
			root := rootOf(version, expires, fourRoles()...)
			got, e := roles.Pin(sealOf(root, 3, 1))
			trusted(t, "Pin", got, e, roles.Trust{Root: root})
			got, e = roles.Pin(sealOf(root, 3))
			refused(t, "Pin, one for two", got, e, api.ErrThreshold)
		}
	}
	for name, b := range noRoots() {
		got, e := roles.Pin(b)
		refused(t, "Pin, "+name, got, e, api.ErrMeta)
	}
}

// P10.1, W3: only the root's own role of roots counts.
func TestPinIsSignedByItsOwn(t *testing.T) {
	for signers := range 1 << 7 {
		var seeds []int
		for i := range 7 {
			if signers>>i&1 == 1 {
				seeds = append(seeds, i+1)
			}
		}
		want := api.OK
		if signers&1+signers>>1&1+signers>>2&1 < 2 {
			want = api.ErrThreshold
		}
		root := rootOf(1, 50, fourRoles()...)
		got, e := roles.Pin(sealOf(root, seeds...))
		answered(t, "Pin", got, e, want, roles.Trust{Root: root})
	}
}

// P10.1
func TestVersions(t *testing.T) {
	for _, n := range []int64{0, 1, -5, most, math.MaxInt64 - 3, math.MinInt64} {
		trust := roles.Trust{
			Root: api.Root{Version: n},
			Time: api.Timestamp{Version: n + 1, Snapshot: api.Ref{Version: 77}},
			Snap: api.Snapshot{Version: n + 2, Targets: api.Ref{Version: 78}},
			Aim:  api.Targets{Version: n + 3},
		}
		if v := roles.Versions(trust); v != [4]int64{n, n + 1, n + 2, n + 3} {
			t.Error("Versions", v)
		}
	}
	if v := roles.Versions(roles.Trust{}); v != [4]int64{} {
		t.Error("Versions of nothing", v)
	}
}

// P10.2
func TestFresh(t *testing.T) {
	for _, expires := range times {
		for _, now := range times {
			want := api.OK
			if expires <= now {
				want = api.ErrExpired
			}
			// The other records play no part.
			trust := wholeOf(1).trust
			trust.Root = api.Root{Version: 1, Expires: expires}
			if e := roles.Fresh(trust, now); e != want {
				t.Errorf("Fresh: a root that expires at %d, at %d: error %d", expires, now, e)
			}
		}
	}
}

// P10.2: all that is trusted beside the root stays.
func TestRotate(t *testing.T) {
	w := wholeOf(4)
	for _, expires := range []int64{0, 1, 49, 50, 51, most} { // it may have expired
		next := rootOf(5, expires, roleOf(1, 9), roleOf(1, 10), roleOf(1, 11), roleOf(1, 12))
		want := w.trust
		want.Root = next
		got, e := roles.Rotate(w.trust, sealOf(next, 1, 2, 9))
		trusted(t, "Rotate", got, e, want)
		got, e = roles.Rotate(roles.Trust{Root: w.trust.Root}, sealOf(next, 9, 3, 2))
		trusted(t, "Rotate, with the root alone", got, e, roles.Trust{Root: next})
		expired := w.trust
		expired.Root.Expires = 0
		got, e = roles.Rotate(expired, sealOf(next, 1, 2, 9))
		trusted(t, "Rotate from a root that has expired", got, e, want)
	}
	for name, b := range noRoots() {
		got, e := roles.Rotate(w.trust, b)
		refused(t, "Rotate, "+name, got, e, api.ErrMeta)
		got, e = roles.Rotate(roles.Trust{}, b)
		refused(t, "Rotate of nothing, "+name, got, e, api.ErrMeta)
	}
}

// P10.2: just the next version.
func TestRotateVersions(t *testing.T) {
	versions := []int64{1, 2, 3, 4, 5, 1 << 32, 1<<32 + 1, most - 1, most}
	for _, at := range append([]int64{0, -1, math.MinInt64, math.MaxInt64, most + 1}, versions...) {
		trust := wholeOf(3).trust
		trust.Root.Version = at
		for _, v := range versions {
			next := rootOf(v, 50, fourRoles()...)
			want := trust
			want.Root = next
			expected := api.ErrVersion
			if at < math.MaxInt64 && v == at+1 {
				expected = api.OK
			}
			got, e := roles.Rotate(trust, sealOf(next, 1, 2))
			answered(t, "Rotate", got, e, expected, want)
			got, e = roles.Rotate(trust, sealOf(next, 1))
			refused(t, "Rotate, one for two", got, e, api.ErrThreshold)
		}
	}
}

// P10.2, W3: as many must sign as the old root says, and as many as the new one does.
func TestRotateThresholds(t *testing.T) {
	have := func(signers int, seeds ...int) (n int64) {
		for _, i := range seeds {
			n += int64(signers >> i & 1)
		}
		return n
	}
	for need := int64(1); need <= 3; need++ {
		trust := wholeOf(1).trust
		trust.Root.Roles[api.RRoot] = roleOf(need, 1, 2, 3)
		for other := int64(1); other <= 3; other++ {
			next := rootOf(2, 50, fourRoles()...)
			next.Roles[api.RRoot] = roleOf(other, 3, 4, 5)
			want := trust
			want.Root = next
			for signers := range 1 << 6 {
				var seeds []int
				for i := range 6 {
					if signers>>i&1 == 1 {
						seeds = append(seeds, i)
					}
				}
				expected := api.OK
				if have(signers, 1, 2, 3) < need || have(signers, 3, 4, 5) < other {
					expected = api.ErrThreshold
				}
				got, e := roles.Rotate(trust, sealOf(next, seeds...))
				answered(t, "Rotate", got, e, expected, want)
			}
		}
	}
}

// P10.2: the keys of the other roles sign no root.
func TestRotateByOtherRoles(t *testing.T) {
	trust := wholeOf(1).trust
	next := rootOf(2, 50, roleOf(1, 4), roleOf(1, 4), roleOf(1, 5), roleOf(1, 6))
	got, e := roles.Rotate(trust, sealOf(next, 4, 5, 6, 7))
	refused(t, "Rotate, by keys of other roles", got, e, api.ErrThreshold)
	next = rootOf(2, 50, roleOf(1, 9), roleOf(1, 1), roleOf(1, 2), roleOf(1, 3))
	got, e = roles.Rotate(trust, sealOf(next, 1, 2, 3))
	refused(t, "Rotate, by keys of the next root's other roles", got, e, api.ErrThreshold)
}

// P10.2: nothing is enough for a role that a root has not, however few it would need.
func TestRotateWithoutRoles(t *testing.T) {
	next := rootOf(2, 50, fourRoles()...)
	b := sealOf(next, 1, 2, 3)
	for _, l := range [][]api.Role{nil, {}} {
		got, e := roles.Rotate(roles.Trust{Root: api.Root{Version: 1, Expires: 50, Roles: l}}, b)
		refused(t, "Rotate of a root without roles", got, e, api.ErrThreshold)
	}
	got, e := roles.Rotate(roles.Trust{Root: rootOf(1, 50, api.Role{})}, b)
	trusted(t, "Rotate of a root whose role needs nobody", got, e, roles.Trust{Root: next})
	got, e = roles.Rotate(roles.Trust{}, b)
	refused(t, "Rotate of nothing", got, e, api.ErrThreshold)
}

// W3: trust goes from root to root, and the keys with it.
func TestFromRootToRoot(t *testing.T) {
	first := rootOf(1, 50, roleOf(1, 1), roleOf(1, 2), roleOf(1, 3), roleOf(1, 4))
	second := rootOf(2, 50, roleOf(2, 11, 12), roleOf(1, 12), roleOf(1, 13), roleOf(1, 14))
	third := rootOf(3, 50, roleOf(1, 21), roleOf(1, 22), roleOf(1, 23), roleOf(1, 24))
	stamp := wholeOf(1).trust.Time
	pin, e := roles.Pin(sealOf(first, 1))
	trusted(t, "Pin", pin, e, roles.Trust{Root: first})
	got, e := roles.Rotate(pin, sealOf(third, 1, 21))
	refused(t, "a root left out", got, e, api.ErrVersion)
	got, e = roles.Rotate(pin, sealOf(second, 11, 12))
	refused(t, "by the new keys alone", got, e, api.ErrThreshold)
	got, e = roles.Rotate(pin, sealOf(second, 1, 12))
	refused(t, "by the old keys, and one of the two new ones", got, e, api.ErrThreshold)
	next, e := roles.Rotate(pin, sealOf(second, 1, 12, 11))
	trusted(t, "by all", next, e, roles.Trust{Root: second})
	got, e = roles.Rotate(next, sealOf(third, 1, 21))
	refused(t, "by a key that was given up", got, e, api.ErrThreshold)
	got, e = roles.Rotate(next, sealOf(first, 1, 11, 12))
	refused(t, "back", got, e, api.ErrVersion)
	got, e = roles.Stamp(next, sealOf(stamp, 2), 1)
	refused(t, "a timestamp by a key that was given up", got, e, api.ErrThreshold)
	got, e = roles.Stamp(next, sealOf(stamp, 12), 1)
	trusted(t, "a timestamp by a new key", got, e, roles.Trust{Root: second, Time: stamp})
	last, e := roles.Rotate(got, sealOf(third, 21, 12, 11))
	trusted(t, "the root behind", last, e, roles.Trust{Root: third, Time: stamp})
}

// P10.10: of which a Need is above the number of seeds that signed is no root that is reached.
func TestTooFewSeeds(t *testing.T) {
	body := func(r api.Root) []byte {
		b, _ := meta.WriteRoot(r)
		return b
	}
	for n := range 4 {
		seeds := []int{1, 2, 3}[:n]
		need := int64(n + 1)
		strict := rootOf(2, 50, roleOf(need, 1, 2, 3, 4, 5), roleOf(1, 1), roleOf(1, 1), roleOf(1, 1))
		lax := rootOf(2, 50, roleOf(1, 1, 2, 3), roleOf(1, 1), roleOf(1, 1), roleOf(1, 1))
		for _, next := range []api.Root{strict, lax} {
			s := signedOf(0, body(next), seeds...)
			for _, i := range append([]int{4, 5}, seeds...) { // each signature with other keys, too, and each of them twice
				for _, x := range s.Sigs[:n] {
					s.Sigs = append(s.Sigs, api.Sig{Key: keyOf(i), Sig: x.Sig}, x)
				}
			}
			for _, i := range []int{1, 2, 3, 4, 5} {
				s.Sigs = append(s.Sigs, api.Sig{Key: keyOf(i), Sig: make([]byte, 64)})
			}
			s.Sigs = s.Sigs[:min(len(s.Sigs), api.MaxSigs)]
			old := strict
			old.Version = 1
			got, e := roles.Rotate(roles.Trust{Root: old}, bytesOf(s))
			refused(t, "Rotate, with too few seeds for the old root", got, e, api.ErrThreshold)
			if n == 0 || next.Roles[0].Need == need {
				got, e = roles.Pin(bytesOf(s))
				refused(t, "Pin, with too few seeds", got, e, api.ErrThreshold)
				old = lax
				old.Version = 1
				got, e = roles.Rotate(roles.Trust{Root: old}, bytesOf(s))
				refused(t, "Rotate, with too few seeds for the new root", got, e, api.ErrThreshold)
			}
		}
	}
}
