package updater_test

import (
	"bytes"
	"crypto/ed25519"
	"crypto/sha256"
	"fmt"
	"math"
	"math/rand"
	"slices"
	"testing"

	"imprimatur/api"
	"imprimatur/disk"
	"imprimatur/merkle"
	"imprimatur/meta"
	"imprimatur/state"
	"imprimatur/store"
	"imprimatur/updater"
	"imprimatur/vocab"
	"imprimatur/wire"
)

const (
	most  = 1 << 62 // the greatest number of a record and of a clock
	lasts = 1000    // when what has not expired does

	area    = 160 // sectors of an area
	room    = 90  // of a slot
	sectors = 2*area + 2*room
)

// ends are numbers far out of all bounds.
var ends = []int{math.MinInt, math.MinInt + 1, -1 << 32, -1, 0, math.MaxInt / 2, math.MaxInt/2 + 1, math.MaxInt/2 + 2, math.MaxInt - 1, math.MaxInt, 1 << 32}

// Kinds of what is wanted.
const (
	nothing = iota
	aRoot
	aTimestamp
	aSnapshot
	aTargets
	aChunk
)

// done tells of a call that did not go well.
func done(t *testing.T, e api.Errno) {
	t.Helper()
	if e != api.OK {
		t.Fatalf("error %d", e)
	}
}

// must is what a call of another layer answers, which goes well.
func must[T any](x T, e api.Errno) T {
	if e != api.OK {
		panic(fmt.Sprint("error ", e))
	}
	return x
}

// told is something in words; lists without elements are as nil ones.
func told(x any) string {
	return fmt.Sprintf("%v", x)
}

// someBits are n bits of chance.
func someBits(r *rand.Rand, n int) []bool {
	l := make([]bool, n)
	for i := range l {
		l[i] = r.Intn(2) == 0
	}
	return l
}

// Those who sign: each root has seeds of its own for each kind of record, so that what leads from one leads from no other.

// private is what a root's seed of a kind signs with, by another program.
func private(version, kind int) ed25519.PrivateKey {
	return ed25519.NewKeyFromSeed(bytes.Repeat([]byte{byte(version), byte(version >> 8), byte(kind), 5}, 8))
}

// sealed are the bytes of a record that are signed by the seeds of some roots.
func sealed(kind int, body []byte, versions ...int) []byte {
	s := api.Signed{Kind: int64(kind), Body: body}
	m := must(meta.Message(int64(kind), body))
	for _, v := range versions {
		p := private(v, kind)
		s.Sigs = append(s.Sigs, api.Sig{Key: p[32:], Sig: ed25519.Sign(p, m)})
	}
	return must(meta.WriteSigned(s))
}

// rootOf is the root of a version, that expires at a time.
func rootOf(version int, expires int64) api.Root {
	r := api.Root{Version: int64(version), Expires: expires}
	for kind := range 4 {
		r.Roles = append(r.Roles, api.Role{Need: 1, Keys: [][]byte{private(version, kind)[32:]}})
	}
	return r
}

// rootBytes are those of a root, signed by its own seed and that of the one ahead of it.
func rootBytes(version int, expires int64) []byte {
	return sealed(api.RRoot, must(meta.WriteRoot(rootOf(version, expires))), version-1, version)
}

// pin is the bytes of the root 1.
func pin() []byte {
	return rootBytes(1, lasts)
}

// rootsBehind are the n roots behind the pinned one.
func rootsBehind(n int) [][]byte {
	var l [][]byte
	for i := range n {
		l = append(l, rootBytes(i+2, lasts))
	}
	return l
}

// refOf is the Ref of bytes, by another program's digest.
func refOf(version int64, b []byte) api.Ref {
	d := sha256.Sum256(b)
	return api.Ref{Version: version, Size: int64(len(b)), Hash: d[:]}
}

// learnt is a well formed vocabulary of letters, and merges of this letter, as many as there are told.
func learnt(letter byte, merges int) api.Vocab {
	v := api.Vocab{}
	for b := range 256 {
		v.Tokens = append(v.Tokens, api.Token{Bytes: []byte{byte(b)}})
	}
	last := int64(letter)
	for i := range merges {
		to := int64(len(v.Tokens))
		v.Tokens = append(v.Tokens, api.Token{Bytes: bytes.Repeat([]byte{letter}, i+2), Score: -1 - float64(i)})
		v.Merges = append(v.Merges, api.Merge{A: last, B: int64(letter), To: to})
		last = to
	}
	return v
}

// bundleOf are the bytes of a vocabulary that was learnt.
func bundleOf(letter byte, merges int) []byte {
	return must(vocab.Write(learnt(letter, merges)))
}

// edition is what is published: a bundle, and the records that lead to it.
type edition struct {
	time          api.Timestamp
	snap          api.Snapshot
	aim           api.Targets
	stampB, snapB []byte
	aimB          []byte
	bundle        []byte
	leaves        [][]byte
}

// spec is what an edition is to be of.
type spec struct {
	root    int   // the version of the root whose seeds sign
	version int64 // of the targets record; that of the timestamp is 20 more, that of the snapshot 10 more
	expires int64
	chunk   int
	bundle  []byte
}

// edit is an edition.
func edit(x spec) *edition {
	e := &edition{bundle: x.bundle}
	for i, c := range must(merkle.Cut(x.bundle, int64(x.chunk))) {
		e.leaves = append(e.leaves, must(merkle.Leaf(i, c)))
	}
	e.aim = api.Targets{Version: x.version, Expires: x.expires, Size: int64(len(x.bundle)), Chunk: int64(x.chunk), Root: must(merkle.Root(e.leaves))}
	e.snap = api.Snapshot{Version: x.version + 10, Expires: x.expires}
	e.time = api.Timestamp{Version: x.version + 20, Expires: x.expires}
	e.seal(x.root)
	return e
}

// seal seals an edition's records, each of which tells of the next one, by a root's seeds.
func (e *edition) seal(root int) {
	e.aimB = sealed(api.RTargets, must(meta.WriteTargets(e.aim)), root)
	e.snap.Targets = refOf(e.aim.Version, e.aimB)
	e.snapB = sealed(api.RSnapshot, must(meta.WriteSnapshot(e.snap)), root)
	e.time.Snapshot = refOf(e.snap.Version, e.snapB)
	e.stampB = sealed(api.RTimestamp, must(meta.WriteTimestamp(e.time)), root)
}

// usual is an edition of a version by a root's seeds, whose bundle has 5 chunks.
func usual(root int, version int64) *edition {
	return edit(spec{root, version, lasts, 1000, bundleOf('a'+byte(version), 4)})
}

// count is how many chunks it has.
func (e *edition) count() int {
	return len(e.leaves)
}

// piece is a chunk.
func (e *edition) piece(place int) []byte {
	at := place * int(e.aim.Chunk)
	return e.bundle[at:min(at+int(e.aim.Chunk), len(e.bundle))]
}

// chunkReply is a reply of a chunk and a proof.
func chunkReply(chunk []byte, proof ...[]byte) []byte {
	var l []api.Node
	for _, b := range proof {
		l = append(l, wire.Bytes(b))
	}
	return must(wire.Write(wire.List(wire.Bytes(chunk), wire.List(l...)), wire.Whole()))
}

// reply is the reply of a place's chunk.
func (e *edition) reply(place int) []byte {
	return chunkReply(e.piece(place), must(merkle.Prove(e.leaves, place))...)
}

// slot is what a slot is proved by that has so many roots and these chunks.
func (e *edition) slot(roots int, chunks ...int) state.Slot {
	m := must(merkle.Empty(e.count()))
	for _, place := range chunks {
		m = must(merkle.Put(m, e.count(), place))
	}
	return state.Slot{Roots: int64(roots), Stamp: e.stampB, Snap: e.snapB, Aim: e.aimB, Map: m}
}

// full is likewise, with all chunks.
func (e *edition) full(roots int) state.Slot {
	var l []int
	for i := range e.count() {
		l = append(l, i)
	}
	return e.slot(roots, l...)
}

// mirror answers as it should, from roots and an edition.
type mirror struct {
	roots [][]byte // behind the pinned one
	*edition
}

func (m mirror) answer(w updater.Want) []byte {
	switch w.Kind {
	case aRoot:
		if i := w.Version - 2; i >= 0 && i < int64(len(m.roots)) {
			return m.roots[i]
		}
		return nil
	case aTimestamp:
		return m.stampB
	case aSnapshot:
		return m.snapB
	case aTargets:
		return m.aimB
	default:
		return m.reply(w.Place)
	}
}

func config() updater.Config {
	return updater.Config{Pin: pin(), Limit: api.MaxMeta, Area: area, Room: room}
}

func newDisk(n int) *disk.Disk {
	return must(disk.New(nil, n))
}

// boot boots an updater by the config that is used here.
func boot(t *testing.T, d *disk.Disk) *updater.Updater {
	t.Helper()
	return bootBy(t, d, config())
}

func bootBy(t *testing.T, d *disk.Disk, c updater.Config) *updater.Updater {
	t.Helper()
	u, e := updater.Boot(d, c)
	if e != api.OK || u == nil {
		t.Fatalf("Boot: error %d", e)
	}
	return u
}

// diskOf is a disk with a state, and with bundles in its slots.
func diskOf(s state.State, bundles ...[]byte) *disk.Disk {
	d := newDisk(sectors)
	put(d, s)
	for i, b := range bundles {
		if e := disk.Save(d, 2*area+room*i, b); e != api.OK {
			panic(e)
		}
	}
	d.Flush()
	return d
}

// put puts a state into the store.
func put(d *disk.Disk, s state.State) {
	putBytes(d, must(state.Write(s)))
}

// putBytes puts bytes into the store.
func putBytes(d *disk.Disk, b []byte) {
	if e := must(store.Open(d, 0, area)).Put(b); e != api.OK {
		panic(e)
	}
}

// stored is the state that the disk has; the empty one, if it has none.
func stored(t *testing.T, d *disk.Disk) state.State {
	t.Helper()
	b, e := must(store.Open(d.Copy(), 0, area)).Get()
	if e == api.ErrEmpty {
		return state.State{}
	}
	done(t, e)
	return must(state.Read(b))
}

// holding tells of a disk whose state is another one.
func holding(t *testing.T, what string, d *disk.Disk, want state.State) {
	t.Helper()
	got := stored(t, d)
	if told(got) == told(want) {
		return
	}
	t.Errorf("%s: the state is another one: %s\nnot %s", what, brief(got), brief(want))
}

// brief is a state in a few words.
func brief(s state.State) string {
	text := fmt.Sprintf("%d roots, versions %d %d %d, clock %d, active %d", len(s.Roots), s.Time.Version, s.Snap.Version, s.Aim.Version, s.Clock, s.Active)
	for _, x := range s.Slots {
		text += fmt.Sprintf(", slot %d roots %d bytes map %v", x.Roots, len(x.Aim), x.Map)
	}
	return text
}

// wants tells of an updater that wants something else.
func wants(t *testing.T, what string, u *updater.Updater, kind int, version int64, place int) {
	t.Helper()
	if w := u.Want(); w != (updater.Want{Kind: kind, Version: version, Place: place}) {
		t.Errorf("%s: wants %v, not %d %d %d", what, w, kind, version, place)
	}
}

// begin begins an update that goes well.
func begin(t *testing.T, u *updater.Updater, clock int64) {
	t.Helper()
	if e := u.Begin(clock); e != api.OK {
		t.Fatalf("Begin: error %d", e)
	}
}

// step sends what a mirror answers; it goes well.
func step(t *testing.T, u *updater.Updater, m mirror, clock int64) {
	t.Helper()
	w := u.Want()
	if e := u.Step(m.answer(w), clock); e != api.OK {
		t.Fatalf("Step of %v: error %d", w, e)
	}
}

// upTo begins, and sends what a mirror answers until something of a kind is wanted.
func upTo(t *testing.T, u *updater.Updater, m mirror, kind int) {
	t.Helper()
	begin(t, u, 0)
	for u.Want().Kind != kind {
		step(t, u, m, 0)
	}
}

// update is a whole update, and how many steps it took.
func update(t *testing.T, u *updater.Updater, m mirror, clock int64) int {
	t.Helper()
	begin(t, u, clock)
	n := 0
	for ; u.Want().Kind != nothing; n++ {
		step(t, u, m, clock)
	}
	return n
}

// serves tells of an updater that does not serve an edition, or by another number of roots.
func serves(t *testing.T, what string, u *updater.Updater, e *edition, roots int) {
	t.Helper()
	b, errno := u.Active()
	if errno != api.OK || !bytes.Equal(b, e.bundle) {
		t.Errorf("%s: Active: %d bytes and error %d, or others", what, len(b), errno)
	}
	v, errno := u.Vocab()
	if errno != api.OK || told(v) != told(must(vocab.Load(e.bundle))) {
		t.Errorf("%s: Vocab: %d tokens and error %d, or others", what, len(v.Tokens), errno)
	}
	l, s, errno := u.Evidence()
	if errno != api.OK || len(l) != roots || told(s) != told(e.full(roots)) {
		t.Errorf("%s: Evidence: %d roots, a slot by %d, and error %d; or other records", what, len(l), s.Roots, errno)
	}
	st, errno := u.Status(0)
	if errno != api.OK || st.Active != e.aim.Version {
		t.Errorf("%s: Status: active %d and error %d, not %d", what, st.Active, errno, e.aim.Version)
	}
}

// servesNothing tells of an updater that serves something.
func servesNothing(t *testing.T, what string, u *updater.Updater) {
	t.Helper()
	refuses(t, what, u, api.ErrNone)
	if s, e := u.Status(0); e != api.OK || s.Active != 0 {
		t.Errorf("%s: Status: active %d and error %d", what, s.Active, e)
	}
}

// refuses tells of an updater that answers something else than an error to what it serves.
func refuses(t *testing.T, what string, u *updater.Updater, want api.Errno) {
	t.Helper()
	if b, e := u.Active(); e != want || len(b) != 0 {
		t.Errorf("%s: Active: %d bytes and error %d, not %d", what, len(b), e, want)
	}
	if v, e := u.Vocab(); e != want || len(v.Tokens)+len(v.Merges) != 0 {
		t.Errorf("%s: Vocab: %d tokens and error %d, not %d", what, len(v.Tokens), e, want)
	}
	if l, s, e := u.Evidence(); e != want || len(l) != 0 || told(s) != told(state.Slot{}) {
		t.Errorf("%s: Evidence: %d roots and error %d, not %d, or a slot", what, len(l), e, want)
	}
}

// down tells of an updater that answers something else than that the power is gone.
func down(t *testing.T, what string, u *updater.Updater, want updater.Want) {
	t.Helper()
	refuses(t, what, u, api.ErrDown)
	if s, e := u.Status(5); e != api.ErrDown || s != (updater.Status{}) {
		t.Errorf("%s: Status: %v and error %d", what, s, e)
	}
	if e := u.Begin(5); e != api.ErrDown {
		t.Errorf("%s: Begin: error %d", what, e)
	}
	for _, b := range [][]byte{nil, {1}, make([]byte, api.MaxMeta+1)} {
		if e := u.Step(b, 5); e != api.ErrDown {
			t.Errorf("%s: Step: error %d", what, e)
		}
	}
	if w := u.Want(); w != want {
		t.Errorf("%s: wants %v, not %v", what, w, want)
	}
}

// fails tells of a step that does not fail so, or that changes more than the clock and what is wanted.
func fails(t *testing.T, what string, u *updater.Updater, d *disk.Disk, reply []byte, clock int64, want api.Errno) {
	t.Helper()
	was, is := stored(t, d), d.Bytes()
	s := must(u.Status(0))
	got := slices.Clone(reply)
	if e := u.Step(reply, clock); e != want {
		t.Errorf("%s: Step: error %d, not %d", what, e, want)
	}
	if !bytes.Equal(got, reply) {
		t.Errorf("%s: Step: the reply is changed", what)
	}
	was.Clock = max(was.Clock, min(clock, most))
	holding(t, what, d, was)
	s.Clock, s.Want = was.Clock, updater.Want{}
	if st := must(u.Status(math.MinInt64)); st.Versions != s.Versions || st.Active != s.Active || st.Clock != s.Clock || st.Want != s.Want {
		t.Errorf("%s: status %v, not %v", what, st, s)
	}
	if from := 64 * 2 * area; !bytes.Equal(is[from:], d.Bytes()[from:]) {
		t.Errorf("%s: a slot's bytes are others", what)
	}
	if e := u.Step(reply, clock); e != api.ErrOrder {
		t.Errorf("%s: Step behind it: error %d", what, e)
	}
}

// spoilt are bytes of which one, somewhere in the midst, is another.
func spoilt(b []byte) []byte {
	c := bytes.Clone(b)
	c[len(c)/2] ^= 4
	return c
}
