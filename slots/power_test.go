package slots_test

import (
	"bytes"
	"math/rand"
	"testing"

	"imprimatur/api"
	"imprimatur/disk"
	"imprimatur/slots"
)

// shared tells of a byte outside of some bytes' place that is another one than it was, and of a sector of which this place's share is neither as it was nor as it was put.
func shared(t *testing.T, was, is []byte, at int, put []byte) {
	t.Helper()
	end := at + len(put)
	if !bytes.Equal(was[:at], is[:at]) || !bytes.Equal(was[end:], is[end:]) {
		t.Fatal("bytes outside of the chunk's place are others")
	}
	for at < end {
		next := min(at/api.Sector*api.Sector+api.Sector, end)
		share := is[at:next]
		if !bytes.Equal(share, was[at:next]) && !bytes.Equal(share, put[len(put)-(end-at):][:next-at]) {
			t.Fatalf("the share from the byte %d to %d is neither the old one nor the new one", at, next)
		}
		at = next
	}
}

// P13.2, P13.5, W2: each stroke and each choice of Puts that begin and end within sectors, at their edges, or in one sector.
func TestEachStrokeAndChoice(t *testing.T) {
	for _, c := range []struct{ slot, size, chunk, place int }{
		{0, 256, 64, 0}, {1, 256, 64, 3}, {0, 256, 128, 1}, {1, 130, 64, 2}, {0, 70, 69, 1},
		{0, 200, 65, 0}, {1, 200, 65, 1}, {0, 250, 80, 1}, {1, 256, 150, 0}, {0, 256, 150, 1}, {1, 256, 256, 0}, {0, 255, 1024, 0},
	} {
		before := text(640)
		n := len(piece(make([]byte, c.size), c.chunk, c.place))
		put := text(1000 + n)[:n]
		at := 64*(1+4*c.slot) + c.chunk*c.place
		for stroke, ended := 0, false; !ended; stroke++ {
			for bits := range 1 << 4 {
				choice := make([]bool, 4)
				for i := range choice {
					choice[i] = bits>>i&1 == 1
				}
				d := newDisk(t, before, 10)
				s := open(t, d, 1, 4)
				done(t, d.Set(stroke, choice))
				e := s.Put(c.slot, record(c.size, c.chunk), c.place, put)
				d.Lose(choice) // all that OK was answered to was flushed
				shared(t, before, d.Bytes(), at, put)
				d.Start()
				ended = e == api.OK
				switch {
				case !ended && (e != api.ErrDown || stroke > 9):
					t.Fatalf("Put: the power goes at %d: error %d", stroke, e)
				case ended && !bytes.Equal(d.Bytes()[at:at+n], put):
					t.Fatalf("Put: error 0, but the chunk is not there behind a loss of power")
				}
				// What was begun can be ended.
				done(t, s.Put(c.slot, record(c.size, c.chunk), c.place, put))
				want := bytes.Clone(before)
				copy(want[at:], put)
				if d.Held() != 0 || !bytes.Equal(d.Bytes(), want) {
					t.Fatalf("Put anew: held %d, or other bytes on the disk", d.Held())
				}
			}
		}
	}
}

// P13.5: steps of chance, among them losses of power, on slots of chance.
func TestThePowerGoes(t *testing.T) {
	for seed := range int64(2000) {
		r := rand.New(rand.NewSource(seed))
		from, n := r.Intn(3), 1+r.Intn(40)
		d := newDisk(t, text(64*(from+2*n+1)), from+2*n+1)
		s := open(t, d, from, n)
		for range 6 {
			size, chunk := 1+r.Intn(s.Room()), 64+r.Intn(200)
			place, slot := r.Intn(count(size, chunk)), r.Intn(2)
			put := make([]byte, len(piece(make([]byte, size), chunk, place)))
			r.Read(put)
			was, at := d.Bytes(), 64*(from+n*slot)+chunk*place
			done(t, d.Set(r.Intn(8), someBits(r, 8)))
			e := s.Put(slot, record(size, chunk), place, put)
			if e != api.OK && e != api.ErrDown || (e == api.ErrDown) == d.Up() {
				t.Fatalf("seed %d: Put: error %d, up %v", seed, e, d.Up())
			}
			d.Lose(someBits(r, 8))
			shared(t, was, d.Bytes(), at, put)
			if e == api.OK && !bytes.Equal(d.Bytes()[at:at+len(put)], put) {
				t.Fatalf("seed %d: Put: error 0, but the chunk is not there", seed)
			}
			d.Start()
		}
	}
}

// resume puts those chunks of a bundle that a slot does not have, in an order of chance, while the power goes again and again.
func resume(t *testing.T, r *rand.Rand, d *disk.Disk, s *slots.Slots, slot int, b []byte, chunk int) {
	t.Helper()
	order := r.Perm(count(len(b), chunk))
	for tries := 0; len(order) > 0; tries++ {
		if tries > 5000 {
			t.Fatal("it does not come to an end")
		}
		done(t, d.Set(r.Intn(40), someBits(r, 20))) // a Put has 18 strokes at most
		e := s.Put(slot, record(len(b), chunk), order[0], piece(b, chunk, order[0]))
		switch e {
		case api.OK:
			order = order[1:]
		case api.ErrDown:
			d.Start()
		default:
			t.Fatalf("Put: error %d", e)
		}
	}
	d.Lose(nil)
	d.Start()
}

// W2: whenever the power goes, the old bundle is served until the new one is whole; what was begun can be ended.
func TestTheOldBundleOrTheNewOne(t *testing.T) {
	r := rand.New(rand.NewSource(3))
	for range 12 {
		d := newDisk(t, text(64*250), 250)
		s := open(t, d, 1, 120)
		v := learnt('a', r.Intn(9))
		x := aim(t, bundle(t, v), 64+r.Intn(961))
		fill(t, s, 0, bundle(t, v), int(x.Chunk))
		for i := range 3 {
			w := learnt('b'+byte(i), 1+r.Intn(9))
			y := aim(t, bundle(t, w), 64+r.Intn(961))
			slot := (i + 1) % 2
			failsToHold(t, s, slot, y, api.ErrHash)
			resume(t, r, d, s, slot, bundle(t, w), int(y.Chunk))
			s = open(t, d, 1, 120)
			holds(t, s, 1-slot, x, v)
			holds(t, s, slot, y, w)
			v, x = w, y
		}
	}
}
