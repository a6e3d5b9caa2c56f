package roles_test

import (
	"bytes"
	"crypto/ed25519"
	"crypto/sha256"
	"fmt"
	"math"
	"math/rand"
	"slices"
	"testing"

	"imprimatur/api"
	"imprimatur/meta"
	"imprimatur/roles"
)

// most is the greatest number of a record.
const most = 1 << 62

// times are readings of a clock, far and near.
var times = []int64{math.MinInt64, math.MinInt64 + 1, -1, 0, 1, 49, 50, 51, most - 1, most, most + 1, math.MaxInt64 - 1, math.MaxInt64}

// seed is one of some seeds.
func seed(i int) []byte {
	return bytes.Repeat([]byte{byte(i), 11}, 16)
}

// private is what a seed signs with, by another program.
func private(i int) ed25519.PrivateKey {
	return ed25519.NewKeyFromSeed(seed(i))
}

func keyOf(i int) []byte {
	return bytes.Clone(private(i)[32:])
}

// roleOf is the role of some seeds' keys.
func roleOf(need int64, seeds ...int) api.Role {
	r := api.Role{Need: need}
	for _, i := range seeds {
		r.Keys = append(r.Keys, keyOf(i))
	}
	slices.SortFunc(r.Keys, bytes.Compare)
	return r
}

// rootOf is a root of four roles.
func rootOf(version, expires int64, l ...api.Role) api.Root {
	return api.Root{Version: version, Expires: expires, Roles: l}
}

// sigOf is a seed's signature of a body.
func sigOf(kind int64, body []byte, i int) api.Sig {
	m, e := meta.Message(kind, body)
	if e != api.OK {
		panic(fmt.Sprint("no message: error ", e))
	}
	return api.Sig{Key: keyOf(i), Sig: ed25519.Sign(private(i), m)}
}

// signedOf is a body that is signed by seeds.
func signedOf(kind int64, body []byte, seeds ...int) api.Signed {
	s := api.Signed{Kind: kind, Body: body}
	for _, i := range seeds {
		s.Sigs = append(s.Sigs, sigOf(kind, body, i))
	}
	return s
}

// bytesOf are a Signed's.
func bytesOf(s api.Signed) []byte {
	b, e := meta.WriteSigned(s)
	if e != api.OK {
		panic(fmt.Sprint("no Signed: error ", e))
	}
	return b
}

// bodyOf is a right record's bytes, and its kind.
func bodyOf(record any) (kind int64, b []byte) {
	e := api.ErrArg
	switch r := record.(type) {
	case api.Root:
		kind = api.RRoot
		b, e = meta.WriteRoot(r)
	case api.Timestamp:
		kind = api.RTimestamp
		b, e = meta.WriteTimestamp(r)
	case api.Snapshot:
		kind = api.RSnapshot
		b, e = meta.WriteSnapshot(r)
	case api.Targets:
		kind = api.RTargets
		b, e = meta.WriteTargets(r)
	}
	if e != api.OK {
		panic(fmt.Sprintf("no record: %v: error %d", record, e))
	}
	return kind, b
}

// sealOf is a record's bytes, signed by seeds.
func sealOf(record any, seeds ...int) []byte {
	kind, b := bodyOf(record)
	return bytesOf(signedOf(kind, b, seeds...))
}

// refOf is the Ref of bytes, by another program's digest.
func refOf(version int64, b []byte) api.Ref {
	d := sha256.Sum256(b)
	return api.Ref{Version: version, Size: int64(len(b)), Hash: d[:]}
}

// hash is one of some digests.
func hash(i int) []byte {
	return bytes.Repeat([]byte{byte(i)}, 32)
}

// told is a trust in words; lists without elements are as nil ones.
func told(t roles.Trust) string {
	return fmt.Sprintf("%v", t)
}

// trusted tells of an answer that is another trust, or an error.
func trusted(t *testing.T, what string, got roles.Trust, e api.Errno, want roles.Trust) {
	t.Helper()
	if e != api.OK || told(got) != told(want) {
		t.Errorf("%s: %s and error %d, not %s", what, told(got), e, told(want))
	}
}

// refused tells of an answer that is another error, or has something beside it.
func refused(t *testing.T, what string, got roles.Trust, e, want api.Errno) {
	t.Helper()
	if want == api.OK || e != want || told(got) != told(roles.Trust{}) {
		t.Errorf("%s: %s and error %d, not %d", what, told(got), e, want)
	}
}

// answered tells of an answer that is neither that trust, if want is OK, nor that error.
func answered(t *testing.T, what string, got roles.Trust, e, want api.Errno, trust roles.Trust) {
	t.Helper()
	if want == api.OK {
		trusted(t, what, got, e, trust)
	} else {
		refused(t, what, got, e, want)
	}
}

// The seeds 1, 2, 3 are for roots, 4 for timestamps, 5 for snapshots, 6 and 7 for targets records.
func fourRoles() []api.Role {
	return []api.Role{roleOf(2, 1, 2, 3), roleOf(1, 4), roleOf(1, 5), roleOf(2, 6, 7)}
}

// whole is a trust in records of all kinds that expire at 50, and that a repository is of, next to its records' bytes.
type whole struct {
	trust                  roles.Trust
	root, stamp, snap, aim []byte
}

// wholeOf is one whose records are of that version.
func wholeOf(version int64) whole {
	w := whole{}
	w.trust.Root = rootOf(version, 50, fourRoles()...)
	w.root = sealOf(w.trust.Root, 1, 2)
	w.trust.Aim = api.Targets{Version: version, Expires: 50, Size: 1000, Chunk: 64, Root: hash(1)}
	w.aim = sealOf(w.trust.Aim, 6, 7)
	w.trust.Snap = api.Snapshot{Version: version, Expires: 50, Targets: refOf(version, w.aim)}
	w.snap = sealOf(w.trust.Snap, 5)
	w.trust.Time = api.Timestamp{Version: version, Expires: 50, Snapshot: refOf(version, w.snap)}
	w.stamp = sealOf(w.trust.Time, 4)
	return w
}

// someBytes are bytes of chance.
func someBytes(r *rand.Rand, n int) []byte {
	b := make([]byte, n)
	r.Read(b)
	return b
}
