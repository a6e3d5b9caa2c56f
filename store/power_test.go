package store_test

import (
	"bytes"
	"math/rand"
	"slices"
	"testing"

	"imprimatur/api"
	"imprimatur/disk"
)

// stages are the bytes of a disk behind each stroke of a Put of a record into the area at a sector, if each write were put at once.
func stages(b []byte, at int, generation uint64, record []byte) [][]byte {
	l := [][]byte{b}
	write := func(at int, s []byte) {
		c := bytes.Clone(l[len(l)-1])
		clear(c[64*at : 64*(at+1)])
		copy(c[64*at:64*(at+1)], s)
		l = append(l, c)
	}
	flush := func() { l = append(l, l[len(l)-1]) }
	write(at, nil)
	flush()
	for i := 0; 64*i < len(record); i++ {
		write(at+1+i, record[64*i:])
	}
	flush()
	write(at, headOf(generation, uint32(len(record)), record))
	flush()
	return l
}

// P8.3: what is written, and in which order; each flush is where it must be.
func TestTheStrokesOfAPut(t *testing.T) {
	const n = 4
	for _, c := range []struct {
		name       string
		first      []byte
		second     []byte
		at         int // the sector of the area that is written
		generation uint64
	}{
		{"none counts", text(64 * n), text(64 * n), 2, 1},
		{"none was written", make([]byte, 64*n), make([]byte, 64*n), 2, 1},
		{"the area 0", filled(9, n, []byte("abc")), text(64 * n), 2 + n, 10},
		{"the area 1", text(64 * n), filled(9, n, []byte("abc")), 2, 10},
		{"both, the area 0 newer", filled(9, n, []byte("abc")), filled(8, n, []byte("de")), 2 + n, 10},
		{"both, the area 1 newer", filled(8, n, []byte("de")), filled(9, n, []byte("abc")), 2, 10},
		{"both of one generation", filled(9, n, []byte("de")), filled(9, n, []byte("abc")), 2 + n, 10},
	} {
		for _, size := range []int{0, 1, 64, 65, 130, 192} {
			before := slices.Concat(text(128), c.first, c.second, text(64))
			want := stages(before, c.at, c.generation, text(size))
			for stroke := 1; stroke < len(want); stroke++ {
				for _, kept := range []bool{true, false} {
					d := newDisk(t, before, 2*n+3)
					s := open(t, d, 2, n)
					var choice []bool
					if kept {
						choice = allBits(n)
					}
					done(t, d.Set(stroke-1, choice))
					if e := s.Put(text(size)); e != api.ErrDown || d.Strokes() != stroke {
						t.Fatalf("%s, %d bytes: the power goes at the stroke %d: error %d, strokes %d", c.name, size, stroke, e, d.Strokes())
					}
					w := want[stroke]
					if !kept {
						w = want[flushed(stroke, size)]
					}
					if !bytes.Equal(d.Bytes(), w) {
						t.Fatalf("%s, %d bytes: the power goes at the stroke %d, what is held is put %v: other bytes on the disk", c.name, size, stroke, kept)
					}
				}
			}
			d := newDisk(t, before, 2*n+3)
			s := open(t, d, 2, n)
			done(t, s.Put(text(size)))
			if d.Strokes() != len(want)-1 || d.Held() != 0 || !bytes.Equal(d.Bytes(), want[len(want)-1]) {
				t.Fatalf("%s, %d bytes: strokes %d, held %d, or other bytes on the disk", c.name, size, d.Strokes(), d.Held())
			}
		}
	}
}

// flushed is the last stroke ahead of one that was a flush, in a Put of so many bytes; 0, if there is none.
func flushed(stroke, size int) int {
	second := 3 + (size+63)/64
	switch {
	case stroke > second:
		return second
	case stroke > 2:
		return 2
	}
	return 0
}

// someDisk is a disk of chance for a store of two areas of n sectors from 1 on: areas that count, do not quite, or are nothing.
func someDisk(t *testing.T, r *rand.Rand, n int) *disk.Disk {
	area := func() []byte {
		record := make([]byte, r.Intn(64*(n-1)+1))
		r.Read(record)
		b := filled(uint64(r.Intn(4)), n, record)
		switch r.Intn(4) {
		case 0:
			b[r.Intn(len(b))] ^= 1 << r.Intn(8)
		case 1:
			clear(b[:64*r.Intn(n)])
		}
		return b
	}
	return newDisk(t, slices.Concat(text(64), area(), area()), 2*n+2)
}

// W2, P8.5: at whatever stroke the power goes, with whatever choice, the record is the old one or the new one.
func TestThePowerGoes(t *testing.T) {
	for seed := range int64(3000) {
		r := rand.New(rand.NewSource(seed))
		n := 2 + r.Intn(4)
		d := someDisk(t, r, n)
		s := open(t, d, 1, n)
		for range 1 + r.Intn(5) {
			old, before := s.Get()
			record := make([]byte, r.Intn(s.Room()+1))
			r.Read(record)
			done(t, d.Set(r.Intn(9), someBits(r, 9)))
			put := s.Put(record)
			if put != api.OK && put != api.ErrDown || (put == api.ErrDown) == d.Up() {
				t.Fatalf("seed %d: Put: error %d, up %v", seed, put, d.Up())
			}
			d.Lose(someBits(r, 9)) // all that OK was answered to was flushed
			d.Start()
			b, e := s.Get()
			isNew := e == api.OK && bytes.Equal(b, record)
			isOld := e == before && bytes.Equal(b, old)
			if !isNew && (put == api.OK || !isOld) {
				t.Fatalf("seed %d: Put: error %d, and then Get: %d bytes and error %d", seed, put, len(b), e)
			}
			if c, f := open(t, d, 1, n).Get(); f != e || !bytes.Equal(b, c) {
				t.Fatalf("seed %d: another store there: %d bytes and error %d", seed, len(c), f)
			}
		}
	}
}

// W2, P8.5: each stroke and each choice of a small store.
func TestEachStrokeAndChoice(t *testing.T) {
	const n = 3
	old, record := text(70), text(128)
	for stroke := range 9 {
		for c := range 1 << 4 {
			choice := make([]bool, 4)
			for i := range choice {
				choice[i] = c>>i&1 == 1
			}
			d := newDisk(t, slices.Concat(filled(6, n, text(128)), filled(7, n, old)), 2*n)
			s := open(t, d, 0, n)
			done(t, d.Set(stroke, choice))
			e := s.Put(record)
			if e != api.OK && stroke >= 7 || e != api.ErrDown && stroke < 7 {
				t.Fatalf("the power goes at %d: error %d", stroke, e)
			}
			d.Start()
			switch b, f := s.Get(); {
			case f != api.OK:
				t.Errorf("the power goes at %d, choice %v: Get: error %d", stroke, choice, f)
			case stroke < 5 && !bytes.Equal(b, old):
				t.Errorf("the power goes at %d, choice %v: it is not the old one", stroke, choice)
			case stroke >= 7 && !bytes.Equal(b, record):
				t.Errorf("the power goes at %d, choice %v: it is not the new one", stroke, choice)
			case !bytes.Equal(b, old) && !bytes.Equal(b, record):
				t.Errorf("the power goes at %d, choice %v: it is neither", stroke, choice)
			}
			// What was begun can be ended.
			done(t, d.Set(100, nil))
			done(t, s.Put(record))
			if b, e := s.Get(); e != api.OK || !bytes.Equal(b, record) {
				t.Errorf("the power went at %d: put anew, it is not there", stroke)
			}
		}
	}
}
