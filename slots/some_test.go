package slots_test

import (
	"bytes"
	"math"
	"math/rand"
	"slices"
	"testing"

	"imprimatur/api"
	"imprimatur/disk"
	"imprimatur/merkle"
	"imprimatur/slots"
	"imprimatur/vocab"
)

// ends are numbers far out of all bounds.
var ends = []int{math.MinInt, math.MinInt + 1, -1 << 32, -1, math.MaxInt / 2, math.MaxInt/2 + 1, math.MaxInt/2 + 2, math.MaxInt - 1, math.MaxInt, 1 << 32}

// text is n bytes of chance, the same ones each time.
func text(n int) []byte {
	b := make([]byte, n)
	rand.New(rand.NewSource(int64(n) + 1)).Read(b)
	return b
}

// someBits are n bits of chance.
func someBits(r *rand.Rand, n int) []bool {
	l := make([]bool, n)
	for i := range l {
		l[i] = r.Intn(2) == 0
	}
	return l
}

func newDisk(t *testing.T, b []byte, sectors int) *disk.Disk {
	t.Helper()
	d, e := disk.New(b, sectors)
	if e != api.OK {
		t.Fatalf("New(%d bytes, %d): error %d", len(b), sectors, e)
	}
	return d
}

func open(t *testing.T, d *disk.Disk, from, n int) *slots.Slots {
	t.Helper()
	s, e := slots.Open(d, from, n)
	if e != api.OK || s == nil {
		t.Fatalf("Open(%d, %d): error %d", from, n, e)
	}
	return s
}

// done tells of a call that did not go well.
func done(t *testing.T, e api.Errno) {
	t.Helper()
	if e != api.OK {
		t.Fatalf("error %d", e)
	}
}

// count is how many chunks of a size so many bytes have.
func count(size, chunk int) int {
	return (size + chunk - 1) / chunk
}

// piece is the chunk of a place.
func piece(b []byte, chunk, place int) []byte {
	return b[place*chunk : min((place+1)*chunk, len(b))]
}

// record is a targets record of a size and a chunk size alone: it is all that a Put asks.
func record(size, chunk int) api.Targets {
	return api.Targets{Size: int64(size), Chunk: int64(chunk)}
}

// aim is the targets record of bytes.
func aim(t *testing.T, b []byte, chunk int) api.Targets {
	t.Helper()
	root, e := merkle.Of(b, int64(chunk))
	done(t, e)
	return api.Targets{Version: 1, Expires: 90, Size: int64(len(b)), Chunk: int64(chunk), Root: root}
}

// fill puts all chunks of bytes into a slot, in order.
func fill(t *testing.T, s *slots.Slots, slot int, b []byte, chunk int) {
	t.Helper()
	for i := range count(len(b), chunk) {
		if e := s.Put(slot, record(len(b), chunk), i, piece(b, chunk, i)); e != api.OK {
			t.Fatalf("Put of the chunk %d of %d bytes by %d: error %d", i, len(b), chunk, e)
		}
	}
}

// learnt is a well formed vocabulary of letters, a special token, and merges of this letter, as many as there are told.
func learnt(letter byte, merges int) api.Vocab {
	v := api.Vocab{}
	for b := range 256 {
		v.Tokens = append(v.Tokens, api.Token{Bytes: []byte{byte(b)}})
	}
	v.Tokens = append(v.Tokens, api.Token{Bytes: []byte("<s>"), Special: true})
	last := int64(letter)
	for i := range merges {
		to := int64(len(v.Tokens))
		v.Tokens = append(v.Tokens, api.Token{Bytes: bytes.Repeat([]byte{letter}, i+2), Score: -1 - float64(i)})
		v.Merges = append(v.Merges, api.Merge{A: last, B: int64(letter), To: to})
		last = to
	}
	return v
}

// bundle is a vocabulary's bytes.
func bundle(t *testing.T, v api.Vocab) []byte {
	t.Helper()
	b, e := vocab.Write(v)
	done(t, e)
	return b
}

// same tells whether vocabularies are.
func same(v, w api.Vocab) bool {
	return slices.Equal(v.Merges, w.Merges) && slices.EqualFunc(v.Tokens, w.Tokens, func(a, b api.Token) bool {
		return bytes.Equal(a.Bytes, b.Bytes) && a.Score == b.Score && a.Special == b.Special
	})
}

// gets tells of a slot whose first bytes are others than they must be.
func gets(t *testing.T, s *slots.Slots, slot int, want []byte) {
	t.Helper()
	if b, e := s.Get(slot, int64(len(want))); e != api.OK || !bytes.Equal(b, want) {
		t.Errorf("Get(%d, %d): %d bytes and error %d, or other bytes", slot, len(want), len(b), e)
	}
}

// holds tells of a slot that does not hold a record of a vocabulary.
func holds(t *testing.T, s *slots.Slots, slot int, x api.Targets, want api.Vocab) {
	t.Helper()
	if v, e := s.Holds(slot, x); e != api.OK || !same(v, want) {
		t.Errorf("Holds(%d): %d tokens, %d merges and error %d", slot, len(v.Tokens), len(v.Merges), e)
	}
}

// failsToPut tells of a Put that answers another error.
func failsToPut(t *testing.T, s *slots.Slots, slot int, x api.Targets, place, n int, want api.Errno) {
	t.Helper()
	if e := s.Put(slot, x, place, make([]byte, max(n, 0))); e != want {
		t.Errorf("Put(%d, %d by %d, %d, %d bytes): error %d, not %d", slot, x.Size, x.Chunk, place, n, e, want)
	}
}

// failsToGet tells of a Get that answers another error, or bytes.
func failsToGet(t *testing.T, s *slots.Slots, slot int, size int64, want api.Errno) {
	t.Helper()
	if b, e := s.Get(slot, size); e != want || len(b) != 0 {
		t.Errorf("Get(%d, %d): %d bytes and error %d, not %d", slot, size, len(b), e, want)
	}
}

// failsToHold tells of a Holds that answers another error, or a vocabulary.
func failsToHold(t *testing.T, s *slots.Slots, slot int, x api.Targets, want api.Errno) {
	t.Helper()
	if v, e := s.Holds(slot, x); e != want || len(v.Tokens) != 0 || len(v.Merges) != 0 {
		t.Errorf("Holds(%d, %d by %d): %d tokens and error %d, not %d", slot, x.Size, x.Chunk, len(v.Tokens), e, want)
	}
}
