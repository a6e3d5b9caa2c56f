package store_test

import (
	"bytes"
	"math"
	"math/rand"
	"slices"
	"testing"

	"imprimatur/api"
	"imprimatur/disk"
	"imprimatur/store"
)

// P8.1
func TestOpen(t *testing.T) {
	for _, sectors := range []int{1, 3, 4, 5, 6, 100, api.MaxSectors - 1, api.MaxSectors} {
		d := newDisk(t, nil, sectors)
		for from := range min(sectors+3, 12) {
			most := (sectors - from) / 2 // of the greatest areas that are all on the disk
			for _, n := range []int{0, 1, 2, 3, most - 1, most, most + 1, most + 2, sectors, 2 * sectors} {
				s, e := store.Open(d, from, n)
				if n < 2 || from+2*n > sectors {
					if e != api.ErrArg || s != nil {
						t.Errorf("Open(%d, %d) on %d sectors: error %d", from, n, sectors, e)
					}
				} else if e != api.OK || s == nil || s.Room() != 64*(n-1) {
					t.Errorf("Open(%d, %d) on %d sectors: room %d and error %d", from, n, sectors, s.Room(), e)
				}
			}
		}
	}
}

// P8.1
func TestOpenRefuses(t *testing.T) {
	d := newDisk(t, text(640), 10)
	l := append([]int{0, 1, 2, 5, 9, 10, 11}, ends...)
	for _, from := range l {
		for _, n := range l {
			if s, e := store.Open(nil, from, n); e != api.ErrNil || s != nil {
				t.Errorf("Open of no disk, %d, %d: error %d", from, n, e)
			}
			if from == 0 && (n == 2 || n == 5) || from <= 5 && from > 0 && n == 2 {
				continue
			}
			if s, e := store.Open(d, from, n); e != api.ErrArg || s != nil {
				t.Errorf("Open(%d, %d): error %d", from, n, e)
			}
		}
	}
	if s, e := store.Open(&disk.Disk{}, 0, 2); e != api.ErrArg || s != nil {
		t.Errorf("Open of a disk without sectors: error %d", e)
	}
	if d.Strokes() != 0 || !bytes.Equal(d.Bytes(), text(640)) {
		t.Error("Open changes the disk")
	}
}

// P8.1: the disk stays the one that was handed in.
func TestTheDiskIsTheCallers(t *testing.T) {
	d := newDisk(t, nil, 4)
	s := open(t, d, 0, 2)
	done(t, s.Put([]byte("one")))
	want := slices.Concat(headOf(1, 3, []byte("one")), []byte("one"), make([]byte, 61+128))
	if d.Strokes() != 6 || !bytes.Equal(d.Bytes(), want) {
		t.Errorf("Put: strokes %d, or other bytes on the disk", d.Strokes())
	}
	// What its owner writes is seen, flushed or not.
	done(t, disk.Save(d, 2, filled(7, 2, []byte("seven"))))
	holds(t, s, 1, 7, []byte("seven"))
	d.Lose(nil)
	fails(t, s, api.ErrDown)
	d.Start()
	holds(t, s, 0, 1, []byte("one"))
	if s.Size() != 4 || !s.Up() || s.Strokes() != d.Strokes() {
		t.Error("a store is another disk than the one it embeds")
	}
}

// P8.1: a disk that is down is opened, too.
func TestOpenOnADiskThatIsDown(t *testing.T) {
	d := newDisk(t, filled(3, 2, []byte("abc")), 4)
	d.Lose(nil)
	s := open(t, d, 0, 2)
	fails(t, s, api.ErrDown)
	if s.Room() != 64 {
		t.Errorf("Room: %d", s.Room())
	}
	for _, n := range []int{0, 3, 64, 65, 1000} {
		if e := s.Put(make([]byte, n)); e != api.ErrDown {
			t.Errorf("Put of %d bytes: error %d", n, e)
		}
	}
	d.Start()
	holds(t, s, 0, 3, []byte("abc"))
}

// P8.1, P8.2, P8.3: a store that is nil, or that Open did not make.
func TestNoStore(t *testing.T) {
	for _, s := range []*store.Store{nil, {}} {
		if s.Room() != 0 {
			t.Errorf("Room: %d", s.Room())
		}
		fails(t, s, api.ErrNil)
		for _, n := range []int{0, 1, 64, 1000} {
			if e := s.Put(make([]byte, n)); e != api.ErrNil {
				t.Errorf("Put of %d bytes: error %d", n, e)
			}
		}
	}
}

// P8.2, P8.3: the examples.
func TestExamples(t *testing.T) {
	d := newDisk(t, nil, 4)
	s := open(t, d, 0, 2)
	fails(t, s, api.ErrEmpty)
	done(t, s.Put([]byte{1, 2, 3}))
	if d.Strokes() != 6 || d.Held() != 0 {
		t.Errorf("Put of 3 bytes: %d strokes, held %d", d.Strokes(), d.Held())
	}
	holds(t, s, 0, 1, []byte{1, 2, 3})
	done(t, s.Put([]byte{4}))
	holds(t, s, 1, 2, []byte{4})
}

// P8.3: of no bytes and of as many as there is room for; one more is too long.
func TestPutOfAllSizes(t *testing.T) {
	for _, n := range []int{2, 3, 5} {
		room := 64 * (n - 1)
		for _, size := range []int{0, 1, 63, 64, 65, 127, 128, 129, room - 1, room} {
			if size > room {
				continue
			}
			d := newDisk(t, text(64*20), 20)
			s := open(t, d, 3, n)
			done(t, s.Put(text(size)))
			holds(t, s, 0, 1, text(size))
			if want := 5 + (size+63)/64; d.Strokes() != want {
				t.Errorf("Put of %d bytes: %d strokes, not %d", size, d.Strokes(), want)
			}
			done(t, s.Put(text(room-size)))
			holds(t, s, 1, 2, text(room-size))
		}
		d := newDisk(t, text(64*20), 20)
		s := open(t, d, 3, n)
		for _, size := range []int{room + 1, room + 64, 64 * n, 64 * 20, 1 << 20} {
			if e := s.Put(make([]byte, size)); e != api.ErrLong {
				t.Errorf("Put of %d bytes: error %d", size, e)
			}
		}
		if d.Strokes() != 0 || !bytes.Equal(d.Bytes(), text(64*20)) {
			t.Error("what is refused changes the disk")
		}
	}
}

// P8.3: the greatest store that may be.
func TestTheGreatestStore(t *testing.T) {
	d := newDisk(t, text(api.MaxSectors*api.Sector), api.MaxSectors)
	s := open(t, d, 0, api.MaxSectors/2)
	b := text(s.Room())
	done(t, s.Put(b))
	holds(t, s, 0, 1, b)
	done(t, s.Put(b[1:]))
	holds(t, s, 1, 2, b[1:])
	if e := s.Put(append(b, 1)); e != api.ErrLong {
		t.Errorf("Put of one byte too many: error %d", e)
	}
	holds(t, s, 1, 2, b[1:])
}

// P8.3: behind the greatest generation there is none.
func TestTheLastGeneration(t *testing.T) {
	for _, first := range []bool{true, false} {
		at, b := 0, slices.Concat(filled(math.MaxUint64-1, 2, []byte("abc")), filled(5, 2, []byte("five")))
		if !first {
			at, b = 1, slices.Concat(b[128:], b[:128])
		}
		d := newDisk(t, b, 4)
		s := open(t, d, 0, 2)
		holds(t, s, at, math.MaxUint64-1, []byte("abc"))
		done(t, s.Put([]byte("last")))
		holds(t, s, 1-at, math.MaxUint64, []byte("last"))
		strokes, before := d.Strokes(), d.Bytes()
		for _, n := range []int{0, 1, 64, 65} {
			if e := s.Put(make([]byte, n)); e != api.ErrLong {
				t.Errorf("Put of %d bytes behind the last generation: error %d", n, e)
			}
		}
		holds(t, s, 1-at, math.MaxUint64, []byte("last"))
		if d.Strokes() != strokes || !bytes.Equal(d.Bytes(), before) {
			t.Error("what is refused changes the disk")
		}
	}
}

// P8.4, P8.8
func TestWhatIsPutIsGot(t *testing.T) {
	r := rand.New(rand.NewSource(4))
	d := newDisk(t, text(64*40), 40)
	s := open(t, d, 7, 9)
	for i := range 300 {
		b := make([]byte, r.Intn(s.Room()+1))
		r.Read(b)
		done(t, s.Put(b))
		holds(t, s, i%2, uint64(i)+1, b)
		if r.Intn(10) == 0 {
			d.Lose(someBits(r, 20)) // all was flushed
			d.Start()
			s = open(t, d, 7, 9)
			holds(t, s, i%2, uint64(i)+1, b)
		}
	}
}

// P8.8: from whatever generations were there.
func TestGenerationsRise(t *testing.T) {
	l := []uint64{1, 2, 254, 255, 256, 65535, 1<<32 - 1, 1 << 32, 1<<63 - 1, 1 << 63, math.MaxUint64 - 2}
	for _, g := range l {
		for _, h := range l {
			d := newDisk(t, slices.Concat(filled(g, 2, []byte("a")), filled(h, 2, []byte("b"))), 4)
			s := open(t, d, 0, 2)
			at, want := 0, []byte("a")
			if h > g {
				at, want = 1, []byte("b")
			}
			holds(t, s, at, max(g, h), want)
			done(t, s.Put([]byte("new")))
			holds(t, s, 1-at, max(g, h)+1, []byte("new"))
			done(t, s.Put([]byte("newer")))
			holds(t, s, at, max(g, h)+2, []byte("newer"))
		}
	}
}

// P8.6
func TestAskingChangesNothing(t *testing.T) {
	d := newDisk(t, slices.Concat(filled(1, 3, []byte("a")), filled(2, 3, text(100))), 7)
	s := open(t, d, 0, 3)
	done(t, d.Set(0, nil)) // a stroke would be seen
	for range 5 {
		holds(t, s, 1, 2, text(100))
		s.Room()
	}
	b, _ := s.Get()
	clear(b)
	holds(t, s, 1, 2, text(100))
	if d.Strokes() != 0 || d.Held() != 0 || !d.Up() {
		t.Error("asking is a stroke")
	}
	s = open(t, newDisk(t, nil, 4), 0, 2)
	fails(t, s, api.ErrEmpty)
	if s.Strokes() != 0 {
		t.Error("asking an empty store is a stroke")
	}
}

// P8.7
func TestNoOtherSectorIsTouched(t *testing.T) {
	r := rand.New(rand.NewSource(5))
	for range 100 {
		from, n := r.Intn(5), 2+r.Intn(4)
		d := newDisk(t, text(64*20), 20)
		s := open(t, d, from, n)
		other := open(t, d, from+2*n, 2) // right behind it
		done(t, other.Put([]byte("other")))
		before := d.Bytes()
		for range r.Intn(6) {
			b := make([]byte, r.Intn(s.Room()+1))
			r.Read(b)
			done(t, s.Put(b))
		}
		if r.Intn(2) == 0 {
			done(t, d.Set(r.Intn(8), allBits(8)))
			s.Put(text(s.Room()))
			d.Start()
		}
		after := d.Bytes()
		copy(after[64*from:64*(from+2*n)], before[64*from:])
		if !bytes.Equal(before, after) {
			t.Fatalf("a store of the sectors from %d on, %d an area, touches others", from, n)
		}
		holds(t, other, 0, 1, []byte("other"))
	}
}

// Rule 3
func TestRecordsAreNotKept(t *testing.T) {
	s := open(t, newDisk(t, nil, 4), 0, 2)
	b := []byte("abc")
	done(t, s.Put(b))
	if string(b) != "abc" {
		t.Error("Put changes what is handed in")
	}
	clear(b)
	holds(t, s, 0, 1, []byte("abc"))
	room := append(make([]byte, 0, 200), "de"...)
	done(t, s.Put(room))
	if !bytes.Equal(room[:200], append([]byte("de"), make([]byte, 198)...)) {
		t.Error("Put writes behind what is handed in")
	}
}

// P1: arguments of chance on disks of chance.
func TestEveryCallEnds(t *testing.T) {
	r := rand.New(rand.NewSource(6))
	some := append([]int{0, 1, 2, 3, 4, 5, 6}, ends...)
	for range 20000 {
		b := slices.Concat(filled(r.Uint64(), 2, text(r.Intn(65))), filled(r.Uint64(), 2, text(r.Intn(65))))
		for range r.Intn(3) {
			b[r.Intn(len(b))] ^= 1 << r.Intn(8)
		}
		d := newDisk(t, b, 4+r.Intn(3))
		if r.Intn(10) == 0 {
			d.Lose(nil)
		}
		s, e := store.Open(d, some[r.Intn(len(some))], some[r.Intn(len(some))])
		if (s == nil) != (e != api.OK) {
			t.Fatalf("Open: a store, or none, and error %d", e)
		}
		s.Newest()
		s.Get()
		s.Put(make([]byte, r.Intn(200)))
		s.Room()
	}
}
