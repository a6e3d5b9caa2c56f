package meta_test

import (
	"bytes"
	"crypto/ed25519"
	"math"
	"math/rand"
	"slices"
	"testing"

	"imprimatur/api"
	"imprimatur/meta"
)

// most is the greatest number of a record.
const most = 1 << 62

// out are numbers that no record may have.
var out = []int64{-1, -2, math.MinInt64, math.MinInt64 + 1, most + 1, math.MaxInt64}

// num, piece and list are values' bytes, as the document tells them, without what is tested.
func num(n uint64) []byte {
	return append([]byte{1}, count(n)...)
}

func piece(b []byte) []byte {
	return slices.Concat([]byte{2}, count(uint64(len(b))), b)
}

func list(l ...[]byte) []byte {
	return slices.Concat([]byte{3}, count(uint64(len(l))), slices.Concat(l...))
}

func count(n uint64) []byte {
	if n < 192 {
		return []byte{byte(n)}
	}
	var b []byte
	for ; n > 0; n >>= 8 {
		b = append([]byte{byte(n)}, b...)
	}
	return append([]byte{byte(191 + len(b))}, b...)
}

// The records' bytes.

func roleBytes(r api.Role) []byte {
	var l [][]byte
	for _, k := range r.Keys {
		l = append(l, piece(k))
	}
	return list(num(uint64(r.Need)), list(l...))
}

func refBytes(r api.Ref) []byte {
	return list(num(uint64(r.Version)), num(uint64(r.Size)), piece(r.Hash))
}

func rootBytes(r api.Root) []byte {
	var l [][]byte
	for _, x := range r.Roles {
		l = append(l, roleBytes(x))
	}
	return list(num(uint64(r.Version)), num(uint64(r.Expires)), list(l...))
}

func timestampBytes(r api.Timestamp) []byte {
	return list(num(uint64(r.Version)), num(uint64(r.Expires)), refBytes(r.Snapshot))
}

func snapshotBytes(r api.Snapshot) []byte {
	return list(num(uint64(r.Version)), num(uint64(r.Expires)), refBytes(r.Targets))
}

func targetsBytes(r api.Targets) []byte {
	return list(num(uint64(r.Version)), num(uint64(r.Expires)), num(uint64(r.Size)), num(uint64(r.Chunk)), piece(r.Root))
}

func signedBytes(s api.Signed) []byte {
	var l [][]byte
	for _, x := range s.Sigs {
		l = append(l, list(piece(x.Key), piece(x.Sig)))
	}
	return list(num(uint64(s.Kind)), piece(s.Body), list(l...))
}

// Whether records are the same, lists without elements being as nil ones.

func sameRole(a, b api.Role) bool {
	return a.Need == b.Need && slices.EqualFunc(a.Keys, b.Keys, bytes.Equal)
}

func sameRef(a, b api.Ref) bool {
	return a.Version == b.Version && a.Size == b.Size && bytes.Equal(a.Hash, b.Hash)
}

func sameRoot(a, b api.Root) bool {
	return a.Version == b.Version && a.Expires == b.Expires && slices.EqualFunc(a.Roles, b.Roles, sameRole)
}

func sameTimestamp(a, b api.Timestamp) bool {
	return a.Version == b.Version && a.Expires == b.Expires && sameRef(a.Snapshot, b.Snapshot)
}

func sameSnapshot(a, b api.Snapshot) bool {
	return a.Version == b.Version && a.Expires == b.Expires && sameRef(a.Targets, b.Targets)
}

func sameTargets(a, b api.Targets) bool {
	return a.Version == b.Version && a.Expires == b.Expires && a.Size == b.Size && a.Chunk == b.Chunk && bytes.Equal(a.Root, b.Root)
}

func sameSigned(a, b api.Signed) bool {
	same := func(x, y api.Sig) bool { return bytes.Equal(x.Key, y.Key) && bytes.Equal(x.Sig, y.Sig) }
	return a.Kind == b.Kind && bytes.Equal(a.Body, b.Body) && slices.EqualFunc(a.Sigs, b.Sigs, same)
}

// kind is what there is for records of one kind.
type kind[R any] struct {
	name  string
	write func(R) ([]byte, api.Errno)
	read  func([]byte) (R, api.Errno)
	bytes func(R) []byte
	same  func(a, b R) bool
	some  func(*rand.Rand) R // a right one of chance
}

var (
	roots      = kind[api.Root]{"Root", meta.WriteRoot, meta.ReadRoot, rootBytes, sameRoot, someRoot}
	timestamps = kind[api.Timestamp]{"Timestamp", meta.WriteTimestamp, meta.ReadTimestamp, timestampBytes, sameTimestamp, someTimestamp}
	snapshots  = kind[api.Snapshot]{"Snapshot", meta.WriteSnapshot, meta.ReadSnapshot, snapshotBytes, sameSnapshot, someSnapshot}
	aims       = kind[api.Targets]{"Targets", meta.WriteTargets, meta.ReadTargets, targetsBytes, sameTargets, someTargets}
	seals      = kind[api.Signed]{"Signed", meta.WriteSigned, meta.ReadSigned, signedBytes, sameSigned, someSigned}
)

// someNumber is a number from least on, small or great.
func someNumber(r *rand.Rand, least int64) int64 {
	return max(least, []int64{0, 1, 2, 191, 192, 255, 256, most - 1, most, r.Int63n(1000), r.Int63() >> 1}[r.Intn(11)])
}

func someBytes(r *rand.Rand, n int) []byte {
	b := make([]byte, n)
	r.Read(b)
	return b
}

// someKeys are n keys, rising.
func someKeys(r *rand.Rand, n int) [][]byte {
	var l [][]byte
	for range n {
		l = append(l, someBytes(r, 32))
	}
	slices.SortFunc(l, bytes.Compare)
	return l
}

func someRole(r *rand.Rand) api.Role {
	n := 1 + r.Intn(16)
	return api.Role{Keys: someKeys(r, n), Need: 1 + r.Int63n(int64(n))}
}

func someRef(r *rand.Rand) api.Ref {
	return api.Ref{Version: someNumber(r, 1), Size: someNumber(r, 0), Hash: someBytes(r, 32)}
}

func someRoot(r *rand.Rand) api.Root {
	return api.Root{Version: someNumber(r, 1), Expires: someNumber(r, 0), Roles: []api.Role{someRole(r), someRole(r), someRole(r), someRole(r)}}
}

func someTimestamp(r *rand.Rand) api.Timestamp {
	return api.Timestamp{Version: someNumber(r, 1), Expires: someNumber(r, 0), Snapshot: someRef(r)}
}

func someSnapshot(r *rand.Rand) api.Snapshot {
	return api.Snapshot{Version: someNumber(r, 1), Expires: someNumber(r, 0), Targets: someRef(r)}
}

func someTargets(r *rand.Rand) api.Targets {
	return api.Targets{
		Version: someNumber(r, 1), Expires: someNumber(r, 0),
		Size: 1 + r.Int63n(api.MaxBundle), Chunk: 64 + r.Int63n(1024-64+1), Root: someBytes(r, 32),
	}
}

func someSigned(r *rand.Rand) api.Signed {
	s := api.Signed{Kind: r.Int63n(4), Body: someBytes(r, r.Intn(4000))}
	for range r.Intn(33) {
		s.Sigs = append(s.Sigs, api.Sig{Key: someBytes(r, 32), Sig: someBytes(r, 64)})
	}
	return s
}

// seed is one of some seeds.
func seed(i int) []byte {
	return bytes.Repeat([]byte{byte(i), 7}, 16)
}

// keyOf and signatureOf are what a seed's are by another program.
func keyOf(seed []byte) []byte {
	return ed25519.NewKeyFromSeed(seed).Public().(ed25519.PublicKey)
}

func signatureOf(seed, m []byte) []byte {
	return ed25519.Sign(ed25519.NewKeyFromSeed(seed), m)
}

// right tells of a write that answers otherwise than with these bytes.
func (k kind[R]) right(t *testing.T, what string, r R, want []byte) {
	t.Helper()
	if b, e := k.write(r); e != api.OK || !bytes.Equal(b, want) {
		t.Errorf("Write%s, %s: %v and error %d, not %v", k.name, what, b, e, want)
	}
	if got, e := k.read(want); e != api.OK || !k.same(got, r) {
		t.Errorf("Read%s, %s: %v and error %d, not %v", k.name, what, got, e, r)
	}
}

// wrong tells of a write, or a read of bytes made of the record all the same, that is not refused.
func (k kind[R]) wrong(t *testing.T, what string, r R) {
	t.Helper()
	if b, e := k.write(r); e != api.ErrMeta || len(b) != 0 {
		t.Errorf("Write%s, %s: %v and error %d", k.name, what, b, e)
	}
	k.refused(t, what, k.bytes(r))
}

// refused tells of bytes that are read, though they are no record's.
func (k kind[R]) refused(t *testing.T, what string, b []byte) {
	t.Helper()
	var zero R
	if r, e := k.read(b); e != api.ErrMeta || !k.same(r, zero) {
		t.Errorf("Read%s, %s: %v and error %d", k.name, what, r, e)
	}
}
