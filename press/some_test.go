package press_test

import (
	"bytes"
	"crypto/ed25519"
	"crypto/sha256"
	"fmt"
	"math"
	"slices"
	"testing"

	"imprimatur/api"
	"imprimatur/disk"
	"imprimatur/merkle"
	"imprimatur/meta"
	"imprimatur/press"
	"imprimatur/updater"
	"imprimatur/vocab"
	"imprimatur/wire"
)

const (
	most  = 1 << 62 // the greatest number of a record and of a clock
	lasts = 1000    // when what has not expired does

	area    = 160 // sectors of an area
	room    = 90  // of a slot
	sectors = 2*area + 2*room
)

// ends are numbers far out of all bounds.
var ends = []int64{math.MinInt64, math.MinInt64 + 1, math.MinInt64 + 2, -1 << 32, -2, -1, most + 1, math.MaxInt64 - 1, math.MaxInt64}

// noSeeds are how many bytes no seed has.
var noSeeds = []int{0, 1, 31, 33, 64, 9000}

// Kinds of what is wanted.
const (
	nothing = iota
	aRoot
	aTimestamp
	aSnapshot
	aTargets
	aChunk
)

// done tells of a call that did not go well.
func done(t *testing.T, e api.Errno) {
	t.Helper()
	if e != api.OK {
		t.Fatalf("error %d", e)
	}
}

// must is what a call answers that goes well.
func must[T any](x T, e api.Errno) T {
	if e != api.OK {
		panic(fmt.Sprint("error ", e))
	}
	return x
}

// told is something in words; lists without elements are as nil ones.
func told(x any) string {
	return fmt.Sprintf("%v", x)
}

// seed is the seed of a number.
func seed(n int) []byte {
	return bytes.Repeat([]byte{byte(n), byte(n >> 8), 3, 5}, 8)
}

// seeds are those of some numbers.
func seeds(l ...int) [][]byte {
	var s [][]byte
	for _, n := range l {
		s = append(s, seed(n))
	}
	return s
}

// seedsFrom are n seeds of the numbers from one on.
func seedsFrom(first, n int) [][]byte {
	var s [][]byte
	for i := range n {
		s = append(s, seed(first+i))
	}
	return s
}

// keysOf are Keys of the seeds of these numbers.
func keysOf(need int64, l ...int) press.Keys {
	return press.Keys{Seeds: seeds(l...), Need: need}
}

// four are Keys of one seed each, which are others for each number.
func four(n int) [4]press.Keys {
	var keys [4]press.Keys
	for i := range keys {
		keys[i] = keysOf(1, 100*n+i)
	}
	return keys
}

// public is a seed's key, by another program.
func public(seed []byte) []byte {
	return ed25519.NewKeyFromSeed(seed)[32:]
}

// roleOf is the role of right Keys, reckoned otherwise.
func roleOf(k press.Keys) api.Role {
	r := api.Role{Need: k.Need}
	for _, s := range k.Seeds {
		if p := public(s); !slices.ContainsFunc(r.Keys, func(b []byte) bool { return bytes.Equal(b, p) }) {
			r.Keys = append(r.Keys, p)
		}
	}
	slices.SortFunc(r.Keys, bytes.Compare)
	return r
}

// sealed are the bytes of a record that is signed by seeds, by another program.
func sealed(kind int, body []byte, seeds ...[]byte) []byte {
	s := api.Signed{Kind: int64(kind), Body: body}
	m := must(meta.Message(int64(kind), body))
	for _, x := range seeds {
		p := ed25519.NewKeyFromSeed(x)
		s.Sigs = append(s.Sigs, api.Sig{Key: p[32:], Sig: ed25519.Sign(p, m)})
	}
	return must(meta.WriteSigned(s))
}

// rootBytes are those of a root by Keys, sealed by signers, reckoned otherwise.
func rootBytes(version, expires int64, keys [4]press.Keys, signers ...[]byte) []byte {
	r := api.Root{Version: version, Expires: expires}
	for _, k := range keys {
		r.Roles = append(r.Roles, roleOf(k))
	}
	return sealed(api.RRoot, must(meta.WriteRoot(r)), signers...)
}

// refOf is the Ref of bytes, by another program's digest.
func refOf(version int64, b []byte) api.Ref {
	d := sha256.Sum256(b)
	return api.Ref{Version: version, Size: int64(len(b)), Hash: d[:]}
}

// editionOf is an issue's edition, reckoned otherwise.
func editionOf(i press.Issue, keys [4]press.Keys) press.Edition {
	b := must(vocab.Write(i.Vocab))
	aim := api.Targets{Version: i.Version, Expires: i.Expires, Size: int64(len(b)), Chunk: i.Chunk, Root: must(merkle.Of(b, i.Chunk))}
	x := press.Edition{Bundle: b, Chunk: i.Chunk}
	x.Aim = sealed(api.RTargets, must(meta.WriteTargets(aim)), keys[3].Seeds...)
	snap := api.Snapshot{Version: i.Version, Expires: i.Expires, Targets: refOf(i.Version, x.Aim)}
	x.Snap = sealed(api.RSnapshot, must(meta.WriteSnapshot(snap)), keys[2].Seeds...)
	stamp := api.Timestamp{Version: i.Version, Expires: i.Expires, Snapshot: refOf(i.Version, x.Snap)}
	x.Stamp = sealed(api.RTimestamp, must(meta.WriteTimestamp(stamp)), keys[1].Seeds...)
	return x
}

// letters are the short tokens of all bytes, by their bytes.
func letters() api.Vocab {
	v := api.Vocab{}
	for b := range 256 {
		v.Tokens = append(v.Tokens, api.Token{Bytes: []byte{byte(b)}})
	}
	return v
}

// learnt is a well formed vocabulary of letters, and merges of this letter, as many as there are told.
func learnt(letter byte, merges int) api.Vocab {
	v := letters()
	last := int64(letter)
	for i := range merges {
		to := int64(len(v.Tokens))
		v.Tokens = append(v.Tokens, api.Token{Bytes: bytes.Repeat([]byte{letter}, i+2), Score: -1 - float64(i)})
		v.Merges = append(v.Merges, api.Merge{A: last, B: int64(letter), To: to})
		last = to
	}
	return v
}

// special is the special token of a number, with so many bytes, from 6 to 32.
func special(n, size int) api.Token {
	text := fmt.Sprintf("<%04d", n)
	for len(text) < size-1 {
		text += "-"
	}
	return api.Token{Bytes: []byte(text + ">"), Special: true}
}

// sized is a well formed vocabulary of so many bytes, from 10000 on, whether they are within the limits or not.
func sized(size int) api.Vocab {
	v := letters()
	have := len(must(vocab.Write(v)))
	const beside = 16 // bytes that a token takes beside its own
	for have+2*(32+beside) <= size {
		v.Tokens = append(v.Tokens, special(len(v.Tokens), 32))
		have += 32 + beside
	}
	first := (size - have) / 2
	second := size - have - first
	v.Tokens = append(v.Tokens, special(9998, first-beside), special(9999, second-beside))
	return v
}

// usual is an issue of a version, whose bundle has 5 chunks.
func usual(version int64) press.Issue {
	return press.Issue{Version: version, Expires: lasts, Chunk: 1000, Vocab: learnt('a'+byte(version%20), 4)}
}

// chunks is how many chunks an edition has.
func chunks(e press.Edition) int {
	return must(merkle.Count(int64(len(e.Bundle)), e.Chunk))
}

// replyOf is the reply of a place's chunk, reckoned otherwise.
func replyOf(e press.Edition, place int) []byte {
	var leaves [][]byte
	l := slices.Collect(slices.Chunk(e.Bundle, int(e.Chunk)))
	for i, c := range l {
		leaves = append(leaves, must(merkle.Leaf(i, c)))
	}
	var proof []api.Node
	for _, b := range must(merkle.Prove(leaves, place)) {
		proof = append(proof, wire.Bytes(b))
	}
	return must(wire.Write(wire.List(wire.Bytes(l[place]), wire.List(proof...)), wire.Whole()))
}

// bytesAnswered tells of a call that answers other bytes, or another error, than these.
func bytesAnswered(t *testing.T, what string, b []byte, e api.Errno, want []byte, wrong api.Errno) {
	t.Helper()
	if e != wrong || !bytes.Equal(b, want) {
		t.Errorf("%s: %d bytes and error %d, not %d bytes and error %d, or others", what, len(b), e, len(want), wrong)
	}
}

// same tells of an edition that is not another one.
func same(t *testing.T, what string, x, y press.Edition) {
	t.Helper()
	bytesAnswered(t, what+": the timestamp", x.Stamp, 0, y.Stamp, 0)
	bytesAnswered(t, what+": the snapshot", x.Snap, 0, y.Snap, 0)
	bytesAnswered(t, what+": the targets record", x.Aim, 0, y.Aim, 0)
	bytesAnswered(t, what+": the bundle", x.Bundle, 0, y.Bundle, 0)
	if x.Chunk != y.Chunk {
		t.Errorf("%s: chunks of %d bytes, not %d", what, x.Chunk, y.Chunk)
	}
}

// clone is an edition that shares nothing with it.
func clone(e press.Edition) press.Edition {
	return press.Edition{Stamp: bytes.Clone(e.Stamp), Snap: bytes.Clone(e.Snap), Aim: bytes.Clone(e.Aim), Bundle: bytes.Clone(e.Bundle), Chunk: e.Chunk}
}

// A mirror that answers by the press.

type mirror struct {
	roots [][]byte // behind the pinned one
	press.Edition
}

func (m mirror) answer(t *testing.T, w updater.Want) []byte {
	t.Helper()
	b, e := press.Answer(m.Edition, m.roots, w)
	done(t, e)
	return b
}

// pinned is the root 1, by Keys of one seed each.
func pinned() []byte {
	return must(press.Root(1, lasts, four(1), four(1)[0].Seeds...))
}

// rootBehind is a root of a version behind that, by its own Keys of one seed each, sealed by that of the one ahead of it and by its own.
func rootBehind(version int, expires int64) []byte {
	return must(press.Root(int64(version), expires, four(version), seeds(100*(version-1), 100*version)...))
}

// rootsBehind are n of these.
func rootsBehind(n int) [][]byte {
	var l [][]byte
	for i := range n {
		l = append(l, rootBehind(i+2, lasts))
	}
	return l
}

func newDisk(n int) *disk.Disk {
	return must(disk.New(nil, n))
}

// boot boots an updater by the config that is used here.
func boot(t *testing.T, d *disk.Disk) *updater.Updater {
	t.Helper()
	return bootBy(t, d, updater.Config{Pin: pinned(), Limit: api.MaxMeta, Area: area, Room: room})
}

func bootBy(t *testing.T, d *disk.Disk, c updater.Config) *updater.Updater {
	t.Helper()
	u, e := updater.Boot(d, c)
	if e != api.OK || u == nil {
		t.Fatalf("Boot: error %d", e)
	}
	return u
}

// fetch is an update up to its end or its first error, and how many steps went well.
func fetch(t *testing.T, u *updater.Updater, m mirror, clock int64) (int, api.Errno) {
	t.Helper()
	e := u.Begin(clock)
	n := 0
	for ; e == api.OK && u.Want().Kind != nothing; n++ {
		if e = u.Step(m.answer(t, u.Want()), clock); e != api.OK {
			break
		}
	}
	return n, e
}

// update is an update that goes well, and how many steps it took.
func update(t *testing.T, u *updater.Updater, m mirror, clock int64) int {
	t.Helper()
	n, e := fetch(t, u, m, clock)
	done(t, e)
	return n
}

// serves tells of an updater that does not serve an issue's vocabulary.
func serves(t *testing.T, what string, u *updater.Updater, i press.Issue) {
	t.Helper()
	b, e := u.Active()
	bytesAnswered(t, what+": Active", b, e, must(vocab.Write(i.Vocab)), api.OK)
	v, e := u.Vocab()
	if e != api.OK || told(v) != told(i.Vocab) {
		t.Errorf("%s: Vocab: %d tokens and error %d, or others", what, len(v.Tokens), e)
	}
	if s := must(u.Status(0)); s.Active != i.Version {
		t.Errorf("%s: serves the version %d, not %d", what, s.Active, i.Version)
	}
}
