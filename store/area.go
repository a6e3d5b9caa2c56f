package store

import (
	"slices"

	"imprimatur/api"
	"imprimatur/disk"
	"imprimatur/sha2"
)

// area is what an area holds.
type area struct {
	number     int
	generation uint64 // 0, if it does not count: none that counts has that one
	record     []byte
}

// head is an area's head.
type head [api.Sector]byte

// mark is what a head begins with: the bytes 73 77 80 82.
const mark = "IMPR"

// Where the other parts of a head begin; all behind the digest is 0.
const (
	generationAt = len(mark)
	lengthAt     = generationAt + 8
	digestAt     = lengthAt + 4
)

// headOf is the head of an area that counts.
func headOf(generation uint64, record []byte) head {
	var h head
	copy(h[:], mark)
	putNumber(h[generationAt:lengthAt], generation)
	putNumber(h[lengthAt:digestAt], uint64(len(record)))
	d, _ := sha2.Sum256(slices.Concat(h[generationAt:lengthAt], record)) // no error: no disk has so many bytes
	copy(h[digestAt:], d)
	return h
}

// putNumber makes bytes a number's, the greatest first.
func putNumber(b []byte, n uint64) {
	for i := len(b) - 1; i >= 0; i-- {
		b[i] = byte(n)
		n >>= 8
	}
}

// numberOf is the number of bytes.
func numberOf(b []byte) uint64 {
	n := uint64(0)
	for _, x := range b {
		n = n<<8 | uint64(x)
	}
	return n
}

// place is an area's first sector.
func (s *Store) place(number int) int {
	return s.from + number*s.n
}

// area reads an area of a disk that is up. (No errors: all of it is on the disk.)
func (s *Store) area(number int) area {
	var h head
	at := s.place(number)
	b, _ := s.Read(at)
	copy(h[:], b)
	length := numberOf(h[lengthAt:digestAt])
	if length > uint64(s.Room()) {
		return area{}
	}
	generation := numberOf(h[generationAt:lengthAt])
	record, _ := disk.Load(s.Disk, at+1, int(length))
	// The head that these would have tells at once of its begin, its end and the digest.
	if h != headOf(generation, record) {
		return area{}
	}
	return area{number, generation, record}
}
