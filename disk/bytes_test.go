package disk_test

import (
	"bytes"
	"math"
	"math/rand"
	"testing"

	"imprimatur/api"
	"imprimatur/disk"
)

// P7.4
func TestLoadAndSave(t *testing.T) {
	for _, n := range []int{1, 2, 63, 64, 65, 127, 128, 129, 191, 192} {
		for at := range 4 {
			d := newDisk(t, text(256), 4)
			m := newModel(text(256), 4)
			b := text(n + 1000)[:n]
			sectors := (n + 63) / 64
			e := disk.Save(d, at, b)
			if f := m.save(at, b); e != f {
				t.Fatalf("Save(%d, %d bytes): error %d, not %d", at, n, e, f)
			}
			holds(t, d, m)
			if e != api.OK {
				continue
			}
			if d.Held() != sectors || d.Strokes() != sectors {
				t.Errorf("Save(%d, %d bytes): held %d, strokes %d", at, n, d.Held(), d.Strokes())
			}
			if c, e := disk.Load(d, at, n); e != api.OK || !bytes.Equal(b, c) {
				t.Errorf("Load(%d, %d): %v and error %d", at, n, c, e)
			}
			// The last sector has bytes 0 behind; all others are as they were.
			done(t, d.Flush())
			want := text(256)
			copy(want[at*64:], append(bytes.Clone(b), make([]byte, sectors*64-n)...))
			if !bytes.Equal(d.Bytes(), want) {
				t.Errorf("Save(%d, %d bytes) and Flush: other bytes", at, n)
			}
		}
	}
}

// P7.4: all bytes of the greatest disk.
func TestLoadAndSaveMuch(t *testing.T) {
	b := text(api.MaxSectors * api.Sector)
	d := newDisk(t, nil, api.MaxSectors)
	done(t, disk.Save(d, 0, b))
	done(t, d.Flush())
	if c, e := disk.Load(d, 0, len(b)); e != api.OK || !bytes.Equal(b, c) {
		t.Errorf("Load of all bytes: error %d, or other ones", e)
	}
	if c, e := disk.Load(d, 1, len(b)-127); e != api.OK || !bytes.Equal(b[64:len(b)-63], c) {
		t.Errorf("Load of many bytes: error %d, or other ones", e)
	}
}

// P7.4, P7.9
func TestLoadAndSaveRefuse(t *testing.T) {
	d := newDisk(t, text(256), 4)
	done(t, d.Set(0, nil)) // a stroke would be seen
	places := append([]int{5, 6, 100, -4}, ends...)
	for _, n := range []int{0, 1, 64, 65, 256} {
		for _, at := range places {
			if b, e := disk.Load(d, at, n); e != api.ErrPlace || b != nil {
				t.Errorf("Load(%d, %d): %v and error %d", at, n, b, e)
			}
			if e := disk.Save(d, at, make([]byte, n)); e != api.ErrPlace {
				t.Errorf("Save(%d, %d bytes): error %d", at, n, e)
			}
		}
	}
	for at := range 5 {
		room := (4 - at) * 64
		for _, n := range []int{room + 1, room + 64, room + 65, 1 << 20} {
			if b, e := disk.Load(d, at, n); e != api.ErrPlace || b != nil {
				t.Errorf("Load(%d, %d): %v and error %d", at, n, b, e)
			}
			if e := disk.Save(d, at, make([]byte, n)); e != api.ErrPlace {
				t.Errorf("Save(%d, %d bytes): error %d", at, n, e)
			}
		}
		for _, n := range []int{math.MaxInt, math.MaxInt - 62, math.MaxInt - 63, math.MaxInt - 64} {
			if b, e := disk.Load(d, at, n); e != api.ErrPlace || b != nil {
				t.Errorf("Load(%d, %d): %v and error %d", at, n, b, e)
			}
		}
	}
	for _, at := range append([]int{0, 3, 4}, places...) {
		for _, n := range []int{-1, -64, math.MinInt} {
			if b, e := disk.Load(d, at, n); e != api.ErrArg || b != nil {
				t.Errorf("Load(%d, %d): %v and error %d", at, n, b, e)
			}
		}
	}
	if d.Held() != 0 || d.Strokes() != 0 || !d.Up() || !bytes.Equal(d.Bytes(), text(256)) {
		t.Error("what is refused changes the disk")
	}
	d.Lose(nil)
	for _, at := range append([]int{0, 4}, places...) {
		for _, n := range append([]int{0, 1, 64}, ends...) {
			if b, e := disk.Load(d, at, n); e != api.ErrDown || b != nil {
				t.Errorf("Load(%d, %d) of a disk that is down: %v and error %d", at, n, b, e)
			}
		}
		for _, n := range []int{0, 1, 64, 1000} {
			if e := disk.Save(d, at, make([]byte, n)); e != api.ErrDown {
				t.Errorf("Save(%d, %d bytes) of a disk that is down: error %d", at, n, e)
			}
		}
	}
}

// P7.4
func TestLoadAndSaveNoBytes(t *testing.T) {
	d := newDisk(t, text(128), 2)
	done(t, d.Set(0, nil))
	for at := range 3 { // 2 is the one behind the last
		if b, e := disk.Load(d, at, 0); e != api.OK || len(b) != 0 {
			t.Errorf("Load(%d, 0): %v and error %d", at, b, e)
		}
		for _, b := range [][]byte{nil, {}} {
			if e := disk.Save(d, at, b); e != api.OK {
				t.Errorf("Save(%d, none): error %d", at, e)
			}
		}
	}
	for _, at := range append([]int{3}, ends...) {
		if b, e := disk.Load(d, at, 0); e != api.ErrPlace || b != nil {
			t.Errorf("Load(%d, 0): %v and error %d", at, b, e)
		}
		if e := disk.Save(d, at, nil); e != api.ErrPlace {
			t.Errorf("Save(%d, none): error %d", at, e)
		}
	}
	if d.Strokes() != 0 || !d.Up() {
		t.Error("no bytes are a stroke")
	}
}

// P7.4: a save at whose stroke the power goes ends there.
func TestSaveEndsWhenThePowerGoes(t *testing.T) {
	for wait := range 5 {
		for choice, want := range map[string]string{"1111": "1 2 3 4 ", "0000": "9 9 9 9 ", "0101": "9 2 9 4 ", "10": "1 9 9 9 "} {
			d := newDisk(t, bytes.Repeat([]byte{9}, 256), 4)
			done(t, d.Set(wait, bits(choice)))
			e := disk.Save(d, 0, bytes.Join([][]byte{full(1), full(2), full(3), {4}}, nil))
			if wait == 4 {
				done(t, e)
				continue
			}
			// Up to the stroke and with it, writes are held: those behind it were never made.
			want = want[:2*(wait+1)] + "9 9 9 9 "[2*(wait+1):]
			if e != api.ErrDown || d.Up() || d.Strokes() != wait+1 || begun(d) != want {
				t.Errorf("Set(%d, %s): error %d, strokes %d, sectors %s, not %s", wait, choice, e, d.Strokes(), begun(d), want)
			}
		}
	}
}

// P7.4: what is held is loaded.
func TestLoadOfHeldWrites(t *testing.T) {
	d := newDisk(t, nil, 4)
	done(t, d.Write(1, full(1)))
	done(t, d.Write(2, full(2)))
	done(t, d.Write(1, full(3)))
	want := bytes.Join([][]byte{full(0), full(3), full(2)}, nil)
	for n := range len(want) + 1 {
		if b, e := disk.Load(d, 0, n); e != api.OK || !bytes.Equal(b, want[:n]) {
			t.Fatalf("Load(0, %d): %v and error %d", n, b, e)
		}
	}
}

// P1: arguments of chance, many of them out of bounds.
func TestEveryCallEnds(t *testing.T) {
	r := rand.New(rand.NewSource(2))
	some := append([]int{0, 1, 2, 3, 63, 64, 65, 128, 192, 193, api.MaxCut, api.MaxCut + 1, api.MaxSectors, api.MaxSectors + 1}, ends...)
	of := func() int { return some[r.Intn(len(some))] }
	d := newDisk(t, nil, 3)
	for range 50000 {
		b := make([]byte, r.Intn(200))
		c := someBits(r, r.Intn(5))
		disk.New(b, max(of(), -1)%8)
		d.Read(of())
		d.Write(of(), b)
		d.Write(of(), b[:min(len(b), 64)])
		disk.Load(d, of(), of())
		disk.Save(d, of(), b)
		d.Set(of(), c)
		d.Bytes()
		d.Copy().Lose(c)
		switch r.Intn(6) {
		case 0:
			d.Flush()
		case 1:
			d.Lose(c)
		default:
			d.Start()
		}
		if d.Held() < 0 || d.Held() > 100000 || d.Size() != 3 {
			t.Fatalf("held %d, size %d", d.Held(), d.Size())
		}
	}
}
