package store_test

import (
	"bytes"
	"crypto/sha256"
	"encoding/binary"
	"math"
	"math/rand"
	"testing"

	"imprimatur/api"
	"imprimatur/disk"
	"imprimatur/store"
)

// ends are numbers far out of all bounds.
var ends = []int{math.MinInt, math.MinInt + 1, -1 << 32, -1, math.MaxInt / 2, math.MaxInt/2 + 1, math.MaxInt/2 + 2, math.MaxInt - 1, math.MaxInt, 1 << 32}

// text is n bytes of chance, the same ones each time.
func text(n int) []byte {
	b := make([]byte, n)
	rand.New(rand.NewSource(int64(n) + 1)).Read(b)
	return b
}

// someBits are n bits of chance.
func someBits(r *rand.Rand, n int) []bool {
	l := make([]bool, n)
	for i := range l {
		l[i] = r.Intn(2) == 0
	}
	return l
}

// allBits are n bits 1.
func allBits(n int) []bool {
	l := make([]bool, n)
	for i := range l {
		l[i] = true
	}
	return l
}

func newDisk(t *testing.T, b []byte, sectors int) *disk.Disk {
	t.Helper()
	d, e := disk.New(b, sectors)
	if e != api.OK {
		t.Fatalf("New(%d bytes, %d): error %d", len(b), sectors, e)
	}
	return d
}

func open(t *testing.T, d *disk.Disk, from, n int) *store.Store {
	t.Helper()
	s, e := store.Open(d, from, n)
	if e != api.OK || s == nil {
		t.Fatalf("Open(%d, %d): error %d", from, n, e)
	}
	return s
}

// done tells of a call that did not go well.
func done(t *testing.T, e api.Errno) {
	t.Helper()
	if e != api.OK {
		t.Fatalf("error %d", e)
	}
}

// headOf is an area's head, as the document tells it.
func headOf(generation uint64, length uint32, record []byte) []byte {
	g := binary.BigEndian.AppendUint64(nil, generation)
	d := sha256.Sum256(append(bytes.Clone(g), record...))
	h := append([]byte{73, 77, 80, 82}, g...)
	h = binary.BigEndian.AppendUint32(h, length)
	return append(append(h, d[:]...), make([]byte, 16)...)
}

// filled is an area of n sectors that counts, if its generation is not 0; behind its record are bytes 170.
func filled(generation uint64, n int, record []byte) []byte {
	b := append(headOf(generation, uint32(len(record)), record), record...)
	return append(b, bytes.Repeat([]byte{170}, n*api.Sector-len(b))...)
}

// holds tells of a store whose newest area, or record, is another one than it must be.
func holds(t *testing.T, s *store.Store, number int, generation uint64, record []byte) {
	t.Helper()
	if a, g, e := s.Newest(); e != api.OK || a != number || g != generation {
		t.Errorf("Newest: %d, %d and error %d, not %d, %d", a, g, e, number, generation)
	}
	if b, e := s.Get(); e != api.OK || !bytes.Equal(b, record) {
		t.Errorf("Get: %d bytes and error %d, not the %d bytes that they must be", len(b), e, len(record))
	}
}

// fails tells of a store that answers otherwise than with an error.
func fails(t *testing.T, s *store.Store, want api.Errno) {
	t.Helper()
	if a, g, e := s.Newest(); e != want || a != 0 || g != 0 {
		t.Errorf("Newest: %d, %d and error %d, not %d", a, g, e, want)
	}
	if b, e := s.Get(); e != want || len(b) != 0 {
		t.Errorf("Get: %v and error %d, not %d", b, e, want)
	}
}
