package store_test

import (
	"bytes"
	"math"
	"slices"
	"testing"

	"imprimatur/api"
)

// P8.2: an area counts; where it stands alone it is the newest, wherever it stands.
func TestOneAreaCounts(t *testing.T) {
	for _, generation := range []uint64{1, 2, 255, 256, 1 << 32, 1 << 63, math.MaxUint64} {
		for _, n := range []int{2, 3, 6} {
			for _, size := range []int{0, 1, 63, 64, 65, 64 * (n - 1)} {
				if size > 64*(n-1) {
					continue
				}
				a, junk := filled(generation, n, text(size)), text(64*n)
				for at, b := range [][]byte{slices.Concat(a, junk), slices.Concat(junk, a)} {
					s := open(t, newDisk(t, b, 2*n), 0, n)
					holds(t, s, at, generation, text(size))
					s = open(t, newDisk(t, slices.Concat(text(192), b), 2*n+3), 3, n)
					holds(t, s, at, generation, text(size))
				}
			}
		}
	}
}

// P8.2: whatever bit of its head or its record is another one, it does not count; what is behind the record plays no part.
func TestEachBitCounts(t *testing.T) {
	const n = 3
	for _, size := range []int{0, 1, 64, 70, 128} {
		a, junk := filled(5, n, text(size)), text(64*n)
		for bit := range 8 * len(a) {
			b := bytes.Clone(a)
			b[bit/8] ^= 1 << (bit % 8)
			for at, all := range [][]byte{slices.Concat(b, junk), slices.Concat(junk, b)} {
				s := open(t, newDisk(t, all, 2*n), 0, n)
				if bit/8 < 64+size {
					fails(t, s, api.ErrEmpty)
				} else {
					holds(t, s, at, 5, text(size))
				}
			}
			// Of two the other one is the newest then, though its generation is less.
			s := open(t, newDisk(t, slices.Concat(b, filled(4, n, []byte("old"))), 2*n), 0, n)
			if bit/8 < 64+size {
				holds(t, s, 1, 4, []byte("old"))
			}
		}
	}
}

// P8.2: heads that have a right digest, and are none.
func TestHeadsThatDoNotCount(t *testing.T) {
	const n = 3
	record := text(2 * 64 * (n - 1)) // more than there is room for
	for _, c := range []struct {
		name string
		head []byte
		ok   bool
	}{
		{"as it must be", headOf(1, 128, record[:128]), true},
		{"generation 0", headOf(0, 128, record[:128]), false},
		{"generation 0 and no bytes", headOf(0, 0, nil), false},
		{"a byte more than there is room for", headOf(1, 129, record[:129]), false},
		{"more than there is room for", headOf(1, 256, record), false},
		{"the most that a head may tell", headOf(1, math.MaxUint32, record[:128]), false},
		{"a length as of a number below 0", headOf(1, 1<<31, record[:128]), false},
		{"a length with a byte above", headOf(1, 128+1<<24, record[:128]), false},
		{"the digest of fewer bytes", headOf(1, 128, record[:127]), false},
		{"the digest of more bytes", headOf(1, 128, record[:129]), false},
		{"the digest of another generation", append(headOf(1, 128, record[:128])[:16], headOf(2, 128, record[:128])[16:]...), false},
		{"another begin", append([]byte{73, 77, 80, 83}, headOf(1, 128, record[:128])[4:]...), false},
		{"another end", append(headOf(1, 128, record[:128])[:63], 1), false},
		{"nothing", make([]byte, 64), false},
	} {
		// Behind the area the record goes on: one that is too long has its digest there.
		b := slices.Concat(c.head, record)
		for at, all := range [][]byte{b, slices.Concat(make([]byte, 64*n), b)} {
			s := open(t, newDisk(t, all, 20), 0, n)
			if !c.ok {
				fails(t, s, api.ErrEmpty)
			} else {
				holds(t, s, at, 1, record[:128])
			}
			if t.Failed() {
				t.Fatalf("%s, in the area %d", c.name, at)
			}
		}
	}
}

// P8.2: of two that count the greater generation is the newest, of one generation the area 0.
func TestTheNewest(t *testing.T) {
	l := []uint64{0, 1, 2, 255, 256, 1<<32 - 1, 1 << 32, 1<<63 - 1, 1 << 63, math.MaxUint64 - 1, math.MaxUint64}
	for _, g := range l {
		for _, h := range l {
			s := open(t, newDisk(t, slices.Concat(filled(g, 2, []byte("first")), filled(h, 2, []byte("second"))), 4), 0, 2)
			switch {
			case g == 0 && h == 0:
				fails(t, s, api.ErrEmpty)
			case h > g:
				holds(t, s, 1, h, []byte("second"))
			default:
				holds(t, s, 0, g, []byte("first"))
			}
		}
	}
}
