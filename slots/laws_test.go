package slots_test

import (
	"bytes"
	"math/rand"
	"testing"

	"imprimatur/api"
	"imprimatur/slots"
)

// P13.6, W1: all chunks of a bundle, in any order, some of them more than once, are got as that bundle.
func TestChunksInAnyOrder(t *testing.T) {
	r := rand.New(rand.NewSource(1))
	for range 60 {
		v := learnt('m', r.Intn(20))
		b := bundle(t, v)
		chunk := 64 + r.Intn(961)
		x := aim(t, b, chunk)
		sectors := count(len(b), 64) + r.Intn(3)
		s := open(t, newDisk(t, text(64*2*sectors), 2*sectors), 0, sectors)
		slot := r.Intn(2)
		order := r.Perm(count(len(b), chunk))
		for n, place := range append(order, order[:r.Intn(len(order))]...) {
			if n < len(order) {
				failsToHold(t, s, slot, x, api.ErrHash)
			}
			done(t, s.Put(slot, x, place, piece(b, chunk, place)))
		}
		gets(t, s, slot, b)
		holds(t, s, slot, x, v)
	}
}

// P13.6: each chunk, in a place that is another chunk's or with another byte, is told.
func TestOneChunkThatIsAnother(t *testing.T) {
	v := learnt('m', 4)
	b := bundle(t, v)
	x := aim(t, b, 64)
	s := open(t, newDisk(t, nil, 200), 0, 100)
	fill(t, s, 0, b, 64)
	for place := range count(len(b), 64) {
		c := bytes.Clone(piece(b, 64, place))
		c[place%len(c)] ^= 1 << (place % 8)
		done(t, s.Put(0, x, place, c))
		failsToHold(t, s, 0, x, api.ErrHash)
		if other := piece(b, 64, 0); place > 0 && len(other) == len(c) {
			done(t, s.Put(0, x, place, other))
			failsToHold(t, s, 0, x, api.ErrHash)
		}
		done(t, s.Put(0, x, place, piece(b, 64, place)))
		holds(t, s, 0, x, v)
	}
}

// P13.6: the greatest bundle, by the least chunks and the greatest ones.
func TestTheGreatestBundle(t *testing.T) {
	for _, chunk := range []int{64, 1024} {
		b := text(api.MaxBundle)
		n := api.MaxBundle / api.Sector
		s := open(t, newDisk(t, nil, 2*n), 0, n)
		fill(t, s, 1, b, chunk)
		gets(t, s, 1, b)
		failsToHold(t, s, 1, aim(t, b, chunk), api.ErrForm) // it is all there, but no vocabulary's bytes
		gets(t, s, 0, make([]byte, api.MaxBundle))
	}
}

// P13.7: what is put into one slot is no matter to the other one, nor to the sectors around them.
func TestSlotsAreApart(t *testing.T) {
	r := rand.New(rand.NewSource(2))
	for range 300 {
		from, n := r.Intn(4), 1+r.Intn(9)
		sectors := from + 2*n + r.Intn(4)
		d := newDisk(t, text(64*sectors), sectors)
		s := open(t, d, from, n)
		want := text(64 * sectors)
		for range 9 {
			size, chunk, slot := 1+r.Intn(s.Room()), 64+r.Intn(200), r.Intn(2)
			if r.Intn(3) == 0 {
				size = s.Room() // up to the slot's end
			}
			place := count(size, chunk) - 1
			if r.Intn(2) == 0 {
				place = r.Intn(place + 1)
			}
			c := make([]byte, len(piece(make([]byte, size), chunk, place)))
			r.Read(c)
			done(t, s.Put(slot, record(size, chunk), place, c))
			copy(want[64*(from+n*slot)+chunk*place:], c)
			if !bytes.Equal(d.Bytes(), want) {
				t.Fatalf("Put(%d, %d by %d, %d) into slots of %d sectors from %d on: other bytes on the disk", slot, size, chunk, place, n, from)
			}
			for i := range 2 {
				gets(t, s, i, want[64*(from+n*i):][:s.Room()])
			}
		}
	}
}

// P13.7: each slot holds a bundle of its own.
func TestEachSlotHoldsItsOwn(t *testing.T) {
	v, w := learnt('v', 5), learnt('w', 8)
	b, c := bundle(t, v), bundle(t, w)
	x, y := aim(t, b, 100), aim(t, c, 333)
	n := count(len(c), 64) // just as many as the longer one takes
	s := open(t, newDisk(t, nil, 2*n), 0, n)
	fill(t, s, 0, b, 100)
	fill(t, s, 1, c, 333)
	holds(t, s, 0, x, v)
	holds(t, s, 1, y, w)
	failsToHold(t, s, 0, y, api.ErrHash)
	failsToHold(t, s, 1, x, api.ErrHash)
	fill(t, s, 0, c, 333)
	holds(t, s, 0, y, w)
	holds(t, s, 1, y, w)
}

// Rule 3
func TestMemoryIsNotShared(t *testing.T) {
	v := learnt('x', 3)
	b := bundle(t, v)
	x := aim(t, b, 100)
	root := bytes.Clone(x.Root)
	s := open(t, newDisk(t, nil, 200), 0, 100)
	for i := range count(len(b), 100) {
		own := bytes.Clone(piece(b, 100, i))
		room := append(make([]byte, 0, 200), own...)
		done(t, s.Put(0, x, i, room))
		if !bytes.Equal(room, own) || !bytes.Equal(room[len(own):200], make([]byte, 200-len(own))) {
			t.Fatal("Put changes what is handed in, or what is behind it")
		}
		clear(room)
	}
	got, _ := s.Get(0, x.Size)
	clear(got[:cap(got)])
	gets(t, s, 0, b)
	w, e := s.Holds(0, x)
	done(t, e)
	for i := range w.Tokens {
		clear(w.Tokens[i].Bytes)
	}
	clear(w.Merges)
	holds(t, s, 0, x, v)
	if !bytes.Equal(root, x.Root) {
		t.Error("a record that is handed in is changed")
	}
}

// Rule 5: slots keep nothing but where they lie.
func TestSlotsOpenedTwice(t *testing.T) {
	d := newDisk(t, nil, 202)
	s, twin := open(t, d, 1, 100), open(t, d, 1, 100)
	v := learnt('x', 3)
	b := bundle(t, v)
	x := aim(t, b, 200)
	for i := range count(len(b), 200) {
		done(t, []*slots.Slots{s, twin}[i%2].Put(1, x, i, piece(b, 200, i)))
	}
	holds(t, s, 1, x, v)
	holds(t, twin, 1, x, v)
	gets(t, twin, 1, b)
}

// P1: arguments of chance on disks of chance.
func TestEveryCallEnds(t *testing.T) {
	r := rand.New(rand.NewSource(6))
	some := append([]int{0, 1, 2, 3, 4, 5, 63, 64, 65, 128, 1024, 1025}, ends...)
	of := func() int { return some[r.Intn(len(some))] }
	for range 20000 {
		d := newDisk(t, text(r.Intn(257)), 4+r.Intn(3))
		if r.Intn(10) == 0 {
			d.Lose(nil)
		}
		s, e := slots.Open(d, of(), of())
		if (s == nil) != (e != api.OK) {
			t.Fatalf("Open: slots, or none, and error %d", e)
		}
		x := record(of(), of())
		if r.Intn(2) == 0 {
			x = record(1+r.Intn(128), 64+r.Intn(9))
			x.Root = text(r.Intn(40))
		}
		slot := of()
		s.Put(slot, x, of(), make([]byte, r.Intn(130)))
		s.Put(r.Intn(2), x, r.Intn(3), make([]byte, min(max(x.Size, 0), 64)))
		s.Get(slot, int64(of()))
		s.Get(r.Intn(2), x.Size)
		s.Holds(slot, x)
		s.Holds(r.Intn(2), x)
		s.Room()
	}
}
