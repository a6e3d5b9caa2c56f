package slots_test

import (
	"bytes"
	"math"
	"slices"
	"testing"

	"imprimatur/api"
	"imprimatur/disk"
	"imprimatur/slots"
)

// P13.1
func TestOpen(t *testing.T) {
	for _, sectors := range []int{1, 2, 3, 4, 5, 100, api.MaxSectors - 1, api.MaxSectors} {
		d := newDisk(t, nil, sectors)
		for from := range min(sectors+3, 12) {
			most := (sectors - from) / 2 // of the greatest slots that are all on the disk
			for _, n := range []int{0, 1, 2, most - 1, most, most + 1, most + 2, sectors, 2 * sectors} {
				s, e := slots.Open(d, from, n)
				if n < 1 || from+2*n > sectors {
					if e != api.ErrArg || s != nil {
						t.Errorf("Open(%d, %d) on %d sectors: error %d", from, n, sectors, e)
					}
				} else if e != api.OK || s == nil || s.Room() != 64*n {
					t.Errorf("Open(%d, %d) on %d sectors: room %d and error %d", from, n, sectors, s.Room(), e)
				}
			}
		}
	}
}

// P13.1
func TestOpenRefuses(t *testing.T) {
	d := newDisk(t, text(640), 10)
	l := append([]int{0, 1, 5, 6, 8, 9, 10, 11}, ends...)
	for _, from := range l {
		for _, n := range l {
			if s, e := slots.Open(nil, from, n); e != api.ErrNil || s != nil {
				t.Errorf("Open of no disk, %d, %d: error %d", from, n, e)
			}
			if from == 0 && (n == 1 || n == 5) || from > 0 && from <= 8 && n == 1 {
				continue
			}
			if s, e := slots.Open(d, from, n); e != api.ErrArg || s != nil {
				t.Errorf("Open(%d, %d): error %d", from, n, e)
			}
		}
	}
	if s, e := slots.Open(&disk.Disk{}, 0, 1); e != api.ErrArg || s != nil {
		t.Errorf("Open of a disk without sectors: error %d", e)
	}
	if d.Strokes() != 0 || !bytes.Equal(d.Bytes(), text(640)) {
		t.Error("Open changes the disk")
	}
}

// P13.1, P13.2: the example.
func TestExample(t *testing.T) {
	d := newDisk(t, nil, 2)
	s := open(t, d, 0, 1)
	if s.Room() != 64 {
		t.Errorf("Room: %d", s.Room())
	}
	done(t, s.Put(1, record(64, 64), 0, text(64)))
	if want := append(make([]byte, 64), text(64)...); !bytes.Equal(d.Bytes(), want) {
		t.Error("Put: other bytes on the disk")
	}
}

// P13.1: the disk stays the one that was handed in.
func TestTheDiskIsTheCallers(t *testing.T) {
	d := newDisk(t, text(320), 5)
	s := open(t, d, 1, 2)
	gets(t, s, 0, text(320)[64:192])
	gets(t, s, 1, text(320)[192:])
	// What its owner writes is seen, flushed or not.
	done(t, disk.Save(d, 3, []byte("abc")))
	gets(t, s, 1, []byte("abc"))
	d.Lose(nil)
	failsToGet(t, s, 1, 3, api.ErrDown)
	d.Start()
	gets(t, s, 1, text(320)[192:])
	if s.Size() != 5 || !s.Up() || s.Strokes() != d.Strokes() {
		t.Error("slots are another disk than the one they embed")
	}
}

// P13.1 to P13.4: a disk that is down is opened, too.
func TestOpenOnADiskThatIsDown(t *testing.T) {
	d := newDisk(t, text(256), 4)
	d.Lose(nil)
	s := open(t, d, 0, 2)
	if s.Room() != 128 {
		t.Errorf("Room: %d", s.Room())
	}
	failAll(t, s, api.ErrDown)
	d.Start()
	gets(t, s, 0, text(256)[:128])
}

// P13.1 to P13.4: slots that are nil, or that Open did not make.
func TestNoSlots(t *testing.T) {
	down := newDisk(t, nil, 4)
	down.Lose(nil)
	for _, s := range []*slots.Slots{nil, {}, {Disk: newDisk(t, nil, 4)}, {Disk: down}} {
		if s.Room() != 0 {
			t.Errorf("Room: %d", s.Room())
		}
		failAll(t, s, api.ErrNil)
	}
}

// failAll tells of slots that answer otherwise than with an error, whatever else is wrong.
func failAll(t *testing.T, s *slots.Slots, want api.Errno) {
	t.Helper()
	for _, slot := range append([]int{0, 1, 2}, ends...) {
		for _, size := range append([]int{0, 64, 100, 129}, ends...) {
			failsToGet(t, s, slot, int64(size), want)
			for _, chunk := range []int{63, 64, 1025} {
				failsToHold(t, s, slot, record(size, chunk), want)
				for _, place := range []int{-1, 0, 1, 2} {
					failsToPut(t, s, slot, record(size, chunk), place, 64, want)
					failsToPut(t, s, slot, record(size, chunk), place, 0, want)
				}
			}
		}
	}
}

// P13.2: each place of bundles of many sizes, in each slot: what is put is there, flushed, and all else is as it was.
func TestPutOfAllPlaces(t *testing.T) {
	for _, chunk := range []int{64, 65, 96, 100, 127, 128, 129, 191, 700, 1023, 1024} {
		for _, size := range []int{1, 63, 64, 65, 127, 128, 129, 200, 1023, 1024, 1025, 1279, 1280} {
			for place := range count(size, chunk) {
				for slot := range 2 {
					d := newDisk(t, text(64*44), 44)
					s := open(t, d, 3, 20)
					c := bytes.Repeat([]byte{byte(place + 1)}, len(piece(make([]byte, size), chunk, place)))
					if e := s.Put(slot, record(size, chunk), place, c); e != api.OK {
						t.Fatalf("Put(%d, %d by %d, %d): error %d", slot, size, chunk, place, e)
					}
					want := text(64 * 44)
					copy(want[64*(3+20*slot)+place*chunk:], c)
					if d.Held() != 0 || !bytes.Equal(d.Bytes(), want) {
						t.Fatalf("Put(%d, %d by %d, %d): held %d, or other bytes on the disk", slot, size, chunk, place, d.Held())
					}
					gets(t, s, slot, want[64*(3+20*slot):][:1280])
				}
			}
		}
	}
}

// P13.2: what is held of the disk ahead of a Put is what its bytes were.
func TestPutOnHeldWrites(t *testing.T) {
	d := newDisk(t, text(640), 10)
	s := open(t, d, 1, 4)
	want := text(640)
	for _, at := range []int{1, 2, 9} {
		done(t, disk.Save(d, at, bytes.Repeat([]byte{9}, 64)))
		copy(want[64*at:], bytes.Repeat([]byte{9}, 64))
	}
	done(t, s.Put(0, record(250, 100), 0, bytes.Repeat([]byte{7}, 100)))
	copy(want[64:], bytes.Repeat([]byte{7}, 100))
	if d.Held() != 0 || !bytes.Equal(d.Bytes(), want) {
		t.Errorf("held %d, or other bytes on the disk", d.Held())
	}
}

// P13.2: what is refused, by the error that is named first.
func TestPutRefuses(t *testing.T) {
	d := newDisk(t, text(640), 10)
	s := open(t, d, 1, 4)
	done(t, d.Set(0, nil)) // a stroke would be seen
	for _, slot := range append([]int{2, -2}, ends...) {
		failsToPut(t, s, slot, record(100, 64), 0, 64, api.ErrSlot)
		failsToPut(t, s, slot, record(257, 64), 0, 64, api.ErrSlot)
		failsToPut(t, s, slot, record(-1, 63), 9, 1, api.ErrSlot)
	}
	for slot := range 2 {
		for _, size := range []int{257, 320, 512, api.MaxBundle, api.MaxBundle + 1, 1 << 32, math.MaxInt} {
			failsToPut(t, s, slot, record(size, 64), 0, 64, api.ErrSlot)
			failsToPut(t, s, slot, record(size, 63), -1, 0, api.ErrSlot)
		}
		for _, size := range []int{-1, -64, math.MinInt} {
			failsToPut(t, s, slot, record(size, 64), 0, 64, api.ErrArg)
			failsToPut(t, s, slot, record(size, 64), 0, 0, api.ErrArg)
			failsToPut(t, s, slot, record(size, 64), -1, 0, api.ErrArg)
		}
		for _, chunk := range []int{0, 1, 63, -64, 1025, 1 << 32, 1<<32 + 64, math.MaxInt, math.MinInt} {
			failsToPut(t, s, slot, record(200, chunk), 0, min(chunk, 200), api.ErrArg)
			failsToPut(t, s, slot, record(0, chunk), 0, 0, api.ErrArg)
		}
		for _, size := range []int{0, 1, 64, 65, 128, 200, 256} {
			n := count(size, 64)
			for _, place := range append([]int{n, n + 1, -n - 1, 1 << 58, 1<<58 + 1}, ends...) {
				for _, have := range []int{0, 8, 63, 64} {
					failsToPut(t, s, slot, record(size, 64), place, have, api.ErrArg)
				}
			}
			for place := range n {
				right := len(piece(make([]byte, size), 64, place))
				for _, have := range []int{0, 1, 8, 63, 64, 65, 72, 128, right - 1, right + 1, 1 << 18} {
					if have != right {
						failsToPut(t, s, slot, record(size, 64), place, have, api.ErrArg)
					}
				}
			}
		}
		if e := s.Put(slot, record(0, 64), 0, nil); e != api.ErrArg {
			t.Errorf("Put of no bytes: error %d", e)
		}
	}
	if d.Strokes() != 0 || !d.Up() || d.Held() != 0 || !bytes.Equal(d.Bytes(), text(640)) {
		t.Error("what is refused changes the disk")
	}
}

// P13.2, P13.4: a bundle that slots have room for, but that is longer than a bundle may be.
func TestBundlesThatAreTooLong(t *testing.T) {
	d := newDisk(t, nil, api.MaxSectors)
	s := open(t, d, 0, api.MaxSectors/2)
	for _, size := range []int{api.MaxBundle + 1, api.MaxBundle + 64, s.Room()} {
		for _, chunk := range []int{64, 1024} {
			failsToPut(t, s, 0, record(size, chunk), 0, chunk, api.ErrArg)
			failsToHold(t, s, 0, record(size, chunk), api.ErrHash)
		}
		gets(t, s, 1, make([]byte, size)) // bytes may be asked
	}
	failsToPut(t, s, 1, record(s.Room()+1, 64), 0, 64, api.ErrSlot)
	done(t, s.Put(1, record(api.MaxBundle, 64), api.MaxBundle/64-1, bytes.Repeat([]byte{3}, 64)))
	if b, e := s.Get(1, api.MaxBundle); e != api.OK || !bytes.Equal(b[api.MaxBundle-64:], bytes.Repeat([]byte{3}, 64)) {
		t.Errorf("Get of the last chunk: error %d, or other bytes", e)
	}
}

// P13.3
func TestGet(t *testing.T) {
	d := newDisk(t, text(640), 10)
	s := open(t, d, 1, 4)
	done(t, d.Set(0, nil)) // a stroke would be seen
	for slot := range 2 {
		for size := range 257 {
			gets(t, s, slot, text(640)[64*(1+4*slot):][:size])
		}
		for _, size := range []int64{257, 320, 1 << 32, 1<<32 + 64, math.MaxInt64} {
			failsToGet(t, s, slot, size, api.ErrSlot)
		}
		for _, size := range []int64{-1, -64, -1 << 32, math.MinInt64} {
			failsToGet(t, s, slot, size, api.ErrArg)
		}
	}
	for _, slot := range append([]int{2, -2}, ends...) {
		for _, size := range []int64{0, 1, 64, 256, 257, -1, math.MinInt64, math.MaxInt64} {
			failsToGet(t, s, slot, size, api.ErrSlot)
		}
	}
	if d.Strokes() != 0 || d.Held() != 0 || !d.Up() {
		t.Error("asking is a stroke")
	}
}

// P13.4
func TestHolds(t *testing.T) {
	v := learnt('x', 9)
	b := bundle(t, v)
	for _, chunk := range []int{64, 100, 1000, 1024} {
		for slot := range 2 {
			d := newDisk(t, text(64*300), 300)
			s := open(t, d, 2, 120)
			x := aim(t, b, chunk)
			failsToHold(t, s, slot, x, api.ErrHash)
			fill(t, s, slot, b, chunk)
			done(t, d.Set(0, nil)) // a stroke would be seen
			holds(t, s, slot, x, v)
			failsToHold(t, s, 1-slot, x, api.ErrHash)
			// A record's version and expiry are no matter to a slot.
			holds(t, s, slot, api.Targets{Version: 7, Size: x.Size, Chunk: x.Chunk, Root: x.Root}, v)
			for _, y := range others(x) {
				failsToHold(t, s, slot, y, api.ErrHash)
			}
			if !d.Up() {
				t.Error("asking is a stroke")
			}
		}
	}
}

// others are records of other bytes than those of a record.
func others(x api.Targets) []api.Targets {
	var l []api.Targets
	other := func(change func(*api.Targets)) {
		y := x
		y.Root = bytes.Clone(x.Root)
		change(&y)
		l = append(l, y)
	}
	for _, size := range []int64{0, 1, x.Size - 1, x.Size + 1} {
		other(func(y *api.Targets) { y.Size = size })
	}
	for _, chunk := range []int64{math.MinInt64, -64, 0, 63, x.Chunk - 1, x.Chunk + 1, 1025, math.MaxInt64} {
		other(func(y *api.Targets) { y.Chunk = chunk })
	}
	for i := range x.Root {
		other(func(y *api.Targets) { y.Root[i] ^= 1 << (i % 8) })
	}
	other(func(y *api.Targets) { y.Root = nil })
	other(func(y *api.Targets) { y.Root = []byte{} })
	other(func(y *api.Targets) { y.Root = y.Root[:31] })
	other(func(y *api.Targets) { y.Root = append(y.Root, 0) })
	return l
}

// P13.4: Get's errors come first, whatever the rest of a record is.
func TestHoldsRefuses(t *testing.T) {
	b := bundle(t, learnt('x', 2))
	d := newDisk(t, nil, 200)
	s := open(t, d, 0, 100)
	fill(t, s, 1, b, 64)
	for _, slot := range append([]int{2, -2}, ends...) {
		failsToHold(t, s, slot, aim(t, b, 64), api.ErrSlot)
		failsToHold(t, s, slot, record(-1, 0), api.ErrSlot)
	}
	for slot := range 2 {
		for _, size := range []int{6401, api.MaxBundle, api.MaxBundle + 1, math.MaxInt} {
			failsToHold(t, s, slot, record(size, 64), api.ErrSlot)
			failsToHold(t, s, slot, record(size, 0), api.ErrSlot)
		}
		for _, size := range []int{-1, -6400, math.MinInt} {
			failsToHold(t, s, slot, record(size, 64), api.ErrArg)
			failsToHold(t, s, slot, record(size, 0), api.ErrArg)
		}
	}
}

// P13.4, P13.6: bytes of the right root that are no well formed vocabulary's.
func TestHoldsWhatIsNotWellFormed(t *testing.T) {
	v := learnt('x', 3)
	at := len(v.Tokens) - 1
	spoilt := func(change func(*api.Vocab)) []byte {
		w := api.Vocab{Tokens: slices.Clone(v.Tokens), Merges: slices.Clone(v.Merges)}
		change(&w)
		return bundle(t, w)
	}
	good := bundle(t, v)
	for _, c := range []struct {
		name string
		b    []byte
		want api.Errno
	}{
		{"no bytes", nil, api.ErrForm},
		{"bytes of chance", text(1000), api.ErrForm},
		{"one byte short", good[:len(good)-1], api.ErrForm},
		{"one byte more", append(bytes.Clone(good), 0), api.ErrForm},
		{"no letter x", spoilt(func(w *api.Vocab) { w.Tokens['x'].Bytes = []byte("<x>"); w.Tokens['x'].Special = true }), api.ErrAlphabet},
		{"a letter twice", spoilt(func(w *api.Vocab) { w.Tokens['x'].Bytes = []byte("w") }), api.ErrToken},
		{"a score above 0", spoilt(func(w *api.Vocab) { w.Tokens[at].Score = 1 }), api.ErrScore},
		{"scores that rise", spoilt(func(w *api.Vocab) { w.Tokens[at].Score = 0 }), api.ErrRank},
		{"a merge without tokens", spoilt(func(w *api.Vocab) { w.Merges[2].A = 9999 }), api.ErrMerge},
		{"a token without a merge", spoilt(func(w *api.Vocab) { w.Merges = w.Merges[:2] }), api.ErrToken},
	} {
		for _, chunk := range []int{64, 1000} {
			s := open(t, newDisk(t, text(64*300), 300), 1, 140)
			fill(t, s, 1, c.b, chunk)
			x := aim(t, c.b, chunk)
			if v, e := s.Holds(1, x); e != c.want || len(v.Tokens) != 0 || len(v.Merges) != 0 {
				t.Errorf("Holds, %s: %d tokens and error %d, not %d", c.name, len(v.Tokens), e, c.want)
			}
			x.Root[0] ^= 1
			failsToHold(t, s, 1, x, api.ErrHash) // ahead of what vocab finds
		}
	}
}
