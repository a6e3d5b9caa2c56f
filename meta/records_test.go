package meta_test

import (
	"bytes"
	"math"
	"math/rand"
	"slices"
	"testing"

	"imprimatur/api"
	"imprimatur/meta"
)

var chance = rand.New(rand.NewSource(9))

// P9.1: the example.
func TestExample(t *testing.T) {
	want := append([]byte{3, 3, 1, 1, 1, 9, 3, 3, 1, 2, 1, 3, 2, 32}, make([]byte, 32)...)
	timestamps.right(t, "the example", api.Timestamp{Version: 1, Expires: 9, Snapshot: api.Ref{Version: 2, Size: 3, Hash: make([]byte, 32)}}, want)
}

// versions tells of a kind whose versions or times have other bounds than they must.
func versions[R any](t *testing.T, k kind[R], with func(version, expires int64) R) {
	t.Helper()
	for _, v := range []int64{1, 2, 191, 192, 256, 1 << 32, most - 1, most} {
		for _, x := range []int64{0, 1, 191, 192, most - 1, most} {
			r := with(v, x)
			k.right(t, "a version and a time", r, k.bytes(r))
		}
	}
	for _, x := range out {
		k.wrong(t, "no version", with(x, 1))
		k.wrong(t, "no time", with(1, x))
	}
	k.wrong(t, "the version 0", with(0, 1))
}

// P9.1
func TestVersionsAndTimes(t *testing.T) {
	versions(t, roots, func(v, x int64) api.Root {
		r := someRoot(chance)
		r.Version, r.Expires = v, x
		return r
	})
	versions(t, timestamps, func(v, x int64) api.Timestamp {
		return api.Timestamp{Version: v, Expires: x, Snapshot: someRef(chance)}
	})
	versions(t, snapshots, func(v, x int64) api.Snapshot {
		return api.Snapshot{Version: v, Expires: x, Targets: someRef(chance)}
	})
	versions(t, aims, func(v, x int64) api.Targets {
		r := someTargets(chance)
		r.Version, r.Expires = v, x
		return r
	})
}

// refs tells of a kind whose Ref has other bounds than it must.
func refs[R any](t *testing.T, k kind[R], with func(api.Ref) R) {
	t.Helper()
	hash := someBytes(chance, 32)
	for _, v := range []int64{1, 2, 192, most} {
		for _, size := range []int64{0, 1, 8192, 1 << 40, most} {
			r := with(api.Ref{Version: v, Size: size, Hash: hash})
			k.right(t, "a Ref", r, k.bytes(r))
		}
	}
	for _, x := range out {
		k.wrong(t, "a Ref of no version", with(api.Ref{Version: x, Size: 1, Hash: hash}))
		k.wrong(t, "a Ref of no size", with(api.Ref{Version: 1, Size: x, Hash: hash}))
	}
	k.wrong(t, "a Ref of the version 0", with(api.Ref{Version: 0, Size: 1, Hash: hash}))
	for _, n := range []int{0, 1, 31, 33, 64, 9000} {
		k.wrong(t, "a Ref of no digest", with(api.Ref{Version: 1, Size: 1, Hash: make([]byte, n)}))
	}
	k.wrong(t, "a Ref of nothing", with(api.Ref{}))
}

// P9.1
func TestRefs(t *testing.T) {
	refs(t, timestamps, func(r api.Ref) api.Timestamp { return api.Timestamp{Version: 1, Expires: 2, Snapshot: r} })
	refs(t, snapshots, func(r api.Ref) api.Snapshot { return api.Snapshot{Version: 1, Expires: 2, Targets: r} })
}

// P9.1
func TestTargets(t *testing.T) {
	with := func(size, chunk int64, root int) api.Targets {
		return api.Targets{Version: 3, Expires: 4, Size: size, Chunk: chunk, Root: someBytes(chance, root)}
	}
	for _, size := range []int64{1, 2, 64, 131071, 131072} {
		for _, chunk := range []int64{64, 65, 128, 1023, 1024} {
			r := with(size, chunk, 32)
			aims.right(t, "a size and a chunk", r, aims.bytes(r))
		}
	}
	for _, x := range append([]int64{0, 131073, 1 << 40, most}, out...) {
		aims.wrong(t, "no size", with(x, 64, 32))
	}
	for _, x := range append([]int64{0, 1, 63, 1025, 1 << 40, most}, out...) {
		aims.wrong(t, "no chunk", with(1, x, 32))
	}
	for _, n := range []int{0, 1, 31, 33, 64, 9000} {
		aims.wrong(t, "no digest", with(1, 64, n))
	}
	aims.wrong(t, "nothing", api.Targets{})
}

// withRole is a root with that role in a place, and right ones elsewhere.
func withRole(place int, role api.Role) api.Root {
	r := someRoot(chance)
	r.Roles[place] = role
	return r
}

// P9.1
func TestRoles(t *testing.T) {
	for place := range 4 {
		for _, n := range []int{1, 2, 3, 15, 16} {
			for _, need := range []int64{1, int64(n) - 1, int64(n)} {
				r := withRole(place, api.Role{Keys: someKeys(chance, n), Need: max(need, 1)})
				roots.right(t, "a role", r, roots.bytes(r))
			}
			for _, need := range append([]int64{0, int64(n) + 1, 17, 192, most}, out...) {
				roots.wrong(t, "a Need out of bounds", withRole(place, api.Role{Keys: someKeys(chance, n), Need: need}))
			}
		}
		for _, n := range []int{0, 17, 18, 200} {
			for _, need := range []int64{0, 1, 16, 17} {
				roots.wrong(t, "no keys, or too many", withRole(place, api.Role{Keys: someKeys(chance, n), Need: need}))
			}
		}
		for _, n := range []int{0, 1, 31, 33, 64, 9000} {
			for i := range 3 {
				l := someKeys(chance, 3)
				l[i] = slices.Concat(l[i], make([]byte, 9000))[:n]
				slices.SortFunc(l, bytes.Compare)
				roots.wrong(t, "a key that is none", withRole(place, api.Role{Keys: l, Need: 1}))
			}
		}
		roots.wrong(t, "a role of nothing", withRole(place, api.Role{}))
	}
}

// P9.1: keys rise byte by byte, the first one first; so none is there twice.
func TestKeysRise(t *testing.T) {
	key := func(first, last byte) []byte {
		b := make([]byte, 32)
		b[0], b[31] = first, last
		return b
	}
	for _, l := range [][][]byte{
		{key(0, 0), key(0, 1)}, {key(0, 255), key(1, 0)}, {key(127, 0), key(128, 0)}, {key(0, 127), key(0, 128)}, {key(0, 0), key(0, 1), key(255, 255)},
	} {
		r := withRole(2, api.Role{Keys: l, Need: 1})
		roots.right(t, "keys that rise", r, roots.bytes(r))
		back := slices.Clone(l)
		slices.Reverse(back)
		roots.wrong(t, "keys that fall", withRole(2, api.Role{Keys: back, Need: 1}))
		roots.wrong(t, "a key twice", withRole(2, api.Role{Keys: slices.Concat(l, l[len(l)-1:]), Need: 1}))
		roots.wrong(t, "a key twice, elsewhere", withRole(2, api.Role{Keys: slices.Concat(l[:1], l), Need: 1}))
	}
	l := someKeys(chance, 16)
	for i := range 15 {
		turned := slices.Clone(l)
		turned[i], turned[i+1] = turned[i+1], turned[i]
		roots.wrong(t, "two keys turned", withRole(0, api.Role{Keys: turned, Need: 1}))
		turned[i] = turned[i+1]
		roots.wrong(t, "two keys the same", withRole(0, api.Role{Keys: turned, Need: 1}))
	}
}

// P9.1
func TestNumbersOfRoles(t *testing.T) {
	for _, n := range []int{0, 1, 2, 3, 5, 8, 300} {
		r := api.Root{Version: 1, Expires: 1}
		for range n {
			r.Roles = append(r.Roles, someRole(chance))
		}
		roots.wrong(t, "not four roles", r)
	}
	roots.wrong(t, "nothing", api.Root{})
}

// P9.1
func TestSigned(t *testing.T) {
	sigs := func(n int) (l []api.Sig) {
		for range n {
			l = append(l, api.Sig{Key: someBytes(chance, 32), Sig: someBytes(chance, 64)})
		}
		return l
	}
	for kind := range int64(4) {
		for _, n := range []int{0, 1, 2, 31, 32} {
			for _, size := range []int{0, 1, 191, 192, 256, 4000} {
				s := api.Signed{Kind: kind, Body: someBytes(chance, size), Sigs: sigs(n)}
				seals.right(t, "a Signed", s, seals.bytes(s))
			}
		}
	}
	for _, x := range append([]int64{4, 5, 192, most}, out...) {
		seals.wrong(t, "no kind", api.Signed{Kind: x, Sigs: sigs(1)})
	}
	for _, n := range []int{33, 34, 300} {
		seals.wrong(t, "too many Sigs", api.Signed{Sigs: sigs(n)})
	}
	for _, n := range []int{0, 1, 31, 32, 33, 63, 64, 65, 9000} {
		for i := range 3 {
			s := api.Signed{Sigs: sigs(3)}
			if n != 32 {
				s.Sigs[i].Key = make([]byte, n)
				seals.wrong(t, "no key", s)
			}
			s = api.Signed{Sigs: sigs(3)}
			if n != 64 {
				s.Sigs[i].Sig = make([]byte, n)
				seals.wrong(t, "no signature", s)
			}
		}
	}
	// In what order they stand, and how often, plays no part.
	l := sigs(2)
	s := api.Signed{Sigs: []api.Sig{l[1], l[0], l[1], {Key: l[0].Key, Sig: l[1].Sig}}}
	seals.right(t, "Sigs in no order", s, seals.bytes(s))
}

// P9.1: of the bytes that are within the limits, and one more.
func TestSignedLimits(t *testing.T) {
	for _, n := range []int{0, 1, 32} {
		s := someSigned(chance)
		s.Sigs = s.Sigs[:0]
		for range n {
			s.Sigs = append(s.Sigs, api.Sig{Key: make([]byte, 32), Sig: make([]byte, 64)})
		}
		s.Body = make([]byte, 4000)
		room := 4000 + api.MaxMeta - len(signedBytes(s)) // both are counts of two bytes behind the first one
		s.Body = someBytes(chance, room)
		if len(signedBytes(s)) != api.MaxMeta {
			t.Fatalf("%d bytes, not just within the limits", len(signedBytes(s)))
		}
		seals.right(t, "just within the limits", s, signedBytes(s))
		for _, more := range []int{1, 2, 1000, 8192, 1 << 20} {
			s.Body = make([]byte, room+more)
			if b, e := meta.WriteSigned(s); e != api.ErrLong || len(b) != 0 {
				t.Errorf("WriteSigned of %d bytes of body: error %d", len(s.Body), e)
			}
			seals.refused(t, "beyond the limits", signedBytes(s))
			// What is not right is told first.
			bad := s
			bad.Kind = 4
			seals.wrong(t, "no kind, beyond the limits", bad)
			bad = s
			bad.Sigs = append(slices.Clone(s.Sigs), api.Sig{Key: make([]byte, 31), Sig: make([]byte, 64)})
			seals.wrong(t, "no key, beyond the limits", bad)
		}
	}
}

// P9.1: the greatest root has far fewer bytes than there may be.
func TestTheGreatestRoot(t *testing.T) {
	r := api.Root{Version: most, Expires: most}
	for range 4 {
		r.Roles = append(r.Roles, api.Role{Keys: someKeys(chance, 16), Need: 16})
	}
	roots.right(t, "the greatest one", r, roots.bytes(r))
}

// P9.1: values that are no record's, though they are values.
func TestOtherValues(t *testing.T) {
	ref := list(num(1), num(2), piece(make([]byte, 32)))
	good := list(num(1), num(9), ref)
	timestamps.right(t, "as it must be", api.Timestamp{Version: 1, Expires: 9, Snapshot: api.Ref{Version: 1, Size: 2, Hash: make([]byte, 32)}}, good)
	for _, b := range [][]byte{
		nil, {0}, {1}, num(1), piece(nil), piece(good), list(), list(good), list(list(good)),
		list(num(1)), list(num(1), num(9)), list(num(9), ref), list(num(1), num(9), ref, num(0)), list(num(1), num(9), ref, ref), list(num(1), num(9), ref, list()),
		list(num(1), ref, num(9)), list(ref, num(1), num(9)), list(piece([]byte{1}), num(9), ref), list(num(1), piece(nil), ref), list(num(1), list(), ref),
		list(num(1), num(9), list()), list(num(1), num(9), num(1), num(2), piece(make([]byte, 32))), list(num(1), num(9), piece(ref)), list(num(1), num(9), list(ref)),
		list(num(1), num(9), list(num(1), num(2))), list(num(1), num(9), list(num(1), piece(make([]byte, 32)))),
		list(num(1), num(9), list(num(1), num(2), piece(make([]byte, 32)), num(0))), list(num(1), num(9), list(num(1), num(2), piece(make([]byte, 32)), piece(nil))),
		list(num(1), num(9), list(num(1), num(2), num(3))), list(num(1), num(9), list(num(1), num(2), list())),
		list(num(math.MaxUint64), num(9), ref), list(num(1), num(1<<63), ref), list(num(1<<63+1), num(9), ref), list(num(1), num(9), list(num(1), num(1<<63+2), piece(make([]byte, 32)))),
		slices.Concat([]byte{3, 3, 1, 192, 1}, good[4:]), // the version 1 in two bytes
		slices.Concat([]byte{3, 192, 3}, good[2:]),
	} {
		timestamps.refused(t, "another value", b)
		snapshots.refused(t, "another value", b)
		roots.refused(t, "another value", b)
		aims.refused(t, "another value", b)
		seals.refused(t, "another value", b)
	}
}

// P9.1: a timestamp and a snapshot are written alike; all others are told apart.
func TestKindsAreToldApart(t *testing.T) {
	for _, b := range [][]byte{rootBytes(someRoot(chance)), targetsBytes(someTargets(chance)), signedBytes(someSigned(chance))} {
		timestamps.refused(t, "one of another kind", b)
		snapshots.refused(t, "one of another kind", b)
	}
	for _, b := range [][]byte{timestampBytes(someTimestamp(chance)), targetsBytes(someTargets(chance)), signedBytes(someSigned(chance))} {
		roots.refused(t, "one of another kind", b)
	}
	for _, b := range [][]byte{timestampBytes(someTimestamp(chance)), rootBytes(someRoot(chance)), signedBytes(someSigned(chance))} {
		aims.refused(t, "one of another kind", b)
	}
	for _, b := range [][]byte{timestampBytes(someTimestamp(chance)), rootBytes(someRoot(chance)), targetsBytes(someTargets(chance))} {
		seals.refused(t, "one of another kind", b)
	}
}

// P9.1: values in a list of keys, of roles, of Sigs that are none.
func TestOtherValuesWithin(t *testing.T) {
	key, sig := make([]byte, 32), make([]byte, 64)
	role := list(num(1), list(piece(key)))
	roots.right(t, "as it must be", api.Root{Version: 1, Roles: slices.Repeat([]api.Role{{Keys: [][]byte{key}, Need: 1}}, 4)}, list(num(1), num(0), list(role, role, role, role)))
	for _, x := range [][]byte{
		num(1), piece(key), list(), list(num(1)), list(list(piece(key))), list(list(piece(key)), num(1)), list(num(1), piece(key)), list(num(1), list(num(1))),
		list(num(1), list(list(piece(key)))), list(num(1), list(piece(key)), num(1)), list(num(1), list(piece(key), num(2))), list(num(1), list(num(2), piece(key))),
		list(num(1), list(piece(key), list())), list(piece([]byte{1}), list(piece(key))), list(num(1), list()), list(num(0), list()),
	} {
		for place := range 4 {
			l := [][]byte{role, role, role, role}
			l[place] = x
			roots.refused(t, "another value as a role", list(num(1), num(0), list(l...)))
		}
	}
	roots.refused(t, "no list of roles", list(num(1), num(0), role, role, role, role))
	good := list(piece(key), piece(sig))
	seals.right(t, "as it must be", api.Signed{Sigs: slices.Repeat([]api.Sig{{Key: key, Sig: sig}}, 2)}, list(num(0), piece(nil), list(good, good)))
	for _, x := range [][]byte{
		num(1), piece(key), list(), list(piece(key)), list(piece(sig), piece(key)), list(piece(key), piece(sig), piece(sig)), list(piece(key), num(1)),
		list(list(piece(key), piece(sig))), list(piece(key), list(piece(sig))), list(piece(key), piece(sig), list()),
	} {
		seals.refused(t, "another value as a Sig", list(num(0), piece(nil), list(good, x)))
		seals.refused(t, "another value as a Sig", list(num(0), piece(nil), list(x, good)))
	}
	seals.refused(t, "no list of Sigs", list(num(0), piece(nil), good))
	seals.refused(t, "no body", list(num(0), list(), list(good)))
	seals.refused(t, "a number as a body", list(num(0), num(0), list(good)))
}
