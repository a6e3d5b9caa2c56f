package state_test

import (
	"bytes"
	"crypto/ed25519"
	"crypto/sha256"
	"fmt"
	"math"
	"math/rand"
	"slices"
	"testing"

	"imprimatur/api"
	"imprimatur/meta"
	"imprimatur/roles"
	"imprimatur/state"
)

// most is the greatest number of a record and of a clock.
const most = 1 << 62

// ends are numbers far out of all bounds.
var ends = []int64{math.MinInt64, math.MinInt64 + 1, -1 << 32, -1, most + 1, math.MaxInt64 - 1, math.MaxInt64}

// done tells of a call that did not go well.
func done(t *testing.T, e api.Errno) {
	t.Helper()
	if e != api.OK {
		t.Fatalf("error %d", e)
	}
}

// must is what a call of another layer answers, which goes well.
func must[T any](x T, e api.Errno) T {
	if e != api.OK {
		panic(fmt.Sprint("error ", e))
	}
	return x
}

// told is something in words; lists without elements are as nil ones.
func told(x any) string {
	return fmt.Sprintf("%v", x)
}

// filler are n bytes of one kind.
func filler(n int, b byte) []byte {
	return bytes.Repeat([]byte{b}, n)
}

// Those who sign: each root has seeds of its own for each kind of record, so that what leads from one leads from no other.

// private is what a root's seed of a kind signs with, by another program.
func private(version, kind int) ed25519.PrivateKey {
	return ed25519.NewKeyFromSeed(bytes.Repeat([]byte{byte(version), byte(version >> 8), byte(kind), 5}, 8))
}

// sealed are the bytes of a record that are signed by the seeds of some roots.
func sealed(kind int, body []byte, versions ...int) []byte {
	s := api.Signed{Kind: int64(kind), Body: body}
	m := must(meta.Message(int64(kind), body))
	for _, v := range versions {
		p := private(v, kind)
		s.Sigs = append(s.Sigs, api.Sig{Key: p[32:], Sig: ed25519.Sign(p, m)})
	}
	return must(meta.WriteSigned(s))
}

// rootOf is the root of a version. It has expired at any time from 0 on.
func rootOf(version int) api.Root {
	r := api.Root{Version: int64(version)}
	for kind := range 4 {
		r.Roles = append(r.Roles, api.Role{Need: 1, Keys: [][]byte{private(version, kind)[32:]}})
	}
	return r
}

// rootBytes are those of the root of a version, signed by its own seed and that of the one ahead of it.
func rootBytes(version int) []byte {
	return sealed(api.RRoot, must(meta.WriteRoot(rootOf(version))), version-1, version)
}

// pin is the bytes of the root 1.
func pin() []byte {
	return rootBytes(1)
}

// rootsBehind are the n roots behind the pinned one.
func rootsBehind(n int) [][]byte {
	var l [][]byte
	for i := range n {
		l = append(l, rootBytes(i+2))
	}
	return l
}

// chainOf are the trusts in the pinned root and the n behind it.
func chainOf(n int) []roles.Trust {
	var l []roles.Trust
	for i := range n + 1 {
		l = append(l, roles.Trust{Root: rootOf(i + 1)})
	}
	return l
}

// refOf is the Ref of bytes, by another program's digest.
func refOf(version int64, b []byte) api.Ref {
	d := sha256.Sum256(b)
	return api.Ref{Version: version, Size: int64(len(b)), Hash: d[:]}
}

// path are three records one of which leads to the next one, and who signs them.
type path struct {
	time api.Timestamp
	snap api.Snapshot
	aim  api.Targets
	root int // the version of the root whose seeds sign
}

// pathOf is one to a bundle of a size, from a root of a version. Its records have expired at any time from 0 on.
func pathOf(root int, size, chunk int64) path {
	return path{
		time: api.Timestamp{Version: 3},
		snap: api.Snapshot{Version: 4},
		aim:  api.Targets{Version: 5, Size: size, Chunk: chunk, Root: filler(32, 9)},
		root: root,
	}
}

// slot is what leads along a path, from so many roots on, with an empty map.
func (p *path) slot() state.Slot {
	s := state.Slot{Roots: int64(p.root - 1)}
	s.Aim = sealed(api.RTargets, must(meta.WriteTargets(p.aim)), p.root)
	p.snap.Targets = refOf(p.aim.Version, s.Aim)
	s.Snap = sealed(api.RSnapshot, must(meta.WriteSnapshot(p.snap)), p.root)
	p.time.Snapshot = refOf(p.snap.Version, s.Snap)
	s.Stamp = sealed(api.RTimestamp, must(meta.WriteTimestamp(p.time)), p.root)
	s.Map = make([]byte, mapSize(p.aim.Size, p.aim.Chunk))
	return s
}

// slotOf is a slot that is proved by the trust in the root of a version, and the targets record by which it is.
func slotOf(root int, size, chunk int64) (state.Slot, api.Targets) {
	p := pathOf(root, size, chunk)
	return p.slot(), p.aim
}

// mapSize is how many bytes a map of a bundle's chunks has.
func mapSize(size, chunk int64) int64 {
	n := (size + chunk - 1) / chunk
	return (n + 7) / 8
}

// stateOf is a state of n roots behind the pinned one, of records, and of two slots that are proved by the last root and the one ahead of it (or the same).
func stateOf(n int) state.State {
	p := pathOf(n+1, 1000, 64)
	s := state.State{Roots: rootsBehind(n), Clock: 77, Active: 2}
	s.Slots[0] = p.slot()
	s.Slots[0].Map[1] = 0x81
	s.Time, s.Snap, s.Aim = p.time, p.snap, p.aim
	s.Slots[1], _ = slotOf(max(n, 1), 64, 64)
	s.Slots[1].Map[0] = 1
	return s
}

// trustOf is the trust in the last of n roots behind the pinned one, with a state's records.
func trustOf(n int, s state.State) roles.Trust {
	return roles.Trust{Root: rootOf(n + 1), Time: s.Time, Snap: s.Snap, Aim: s.Aim}
}

// copyOf is a state in memory of its own.
func copyOf(s state.State) state.State {
	s.Roots = slices.Clone(s.Roots)
	for i, b := range s.Roots {
		s.Roots[i] = bytes.Clone(b)
	}
	s.Time.Snapshot.Hash = bytes.Clone(s.Time.Snapshot.Hash)
	s.Snap.Targets.Hash = bytes.Clone(s.Snap.Targets.Hash)
	s.Aim.Root = bytes.Clone(s.Aim.Root)
	for i, slot := range s.Slots {
		s.Slots[i] = copyOfSlot(slot)
	}
	return s
}

func copyOfSlot(s state.Slot) state.Slot {
	return state.Slot{Roots: s.Roots, Stamp: bytes.Clone(s.Stamp), Snap: bytes.Clone(s.Snap), Aim: bytes.Clone(s.Aim), Map: bytes.Clone(s.Map)}
}

// spoilt are bytes of which one, somewhere in the midst, is another.
func spoilt(b []byte) []byte {
	c := bytes.Clone(b)
	c[len(c)/2] ^= 4
	return c
}

// someBytes are at most n bytes of chance.
func someBytes(r *rand.Rand, n int) []byte {
	b := make([]byte, r.Intn(n+1))
	r.Read(b)
	return b
}

// written are the bytes of a state that is right.
func written(t *testing.T, s state.State) []byte {
	t.Helper()
	b, e := state.Write(s)
	if e != api.OK {
		t.Fatalf("Write: error %d", e)
	}
	return b
}

// boots tells of a Boot that answers another state or trust.
func boots(t *testing.T, what string, pin, b []byte, want state.State, trust roles.Trust) {
	t.Helper()
	s, got, e := state.Boot(pin, b)
	if e != api.OK || told(s) != told(want) || told(got) != told(trust) {
		t.Errorf("%s: Boot: error %d, %d roots, clock %d, active %d, slots by %d and %d roots, versions %v;\nnot %d roots, clock %d, active %d, slots by %d and %d roots, versions %v", what,
			e, len(s.Roots), s.Clock, s.Active, s.Slots[0].Roots, s.Slots[1].Roots, roles.Versions(got),
			len(want.Roots), want.Clock, want.Active, want.Slots[0].Roots, want.Slots[1].Roots, roles.Versions(trust))
	}
}
