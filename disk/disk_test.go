package disk_test

import (
	"bytes"
	"math/rand"
	"testing"

	"imprimatur/api"
	"imprimatur/disk"
)

// P7.1
func TestNew(t *testing.T) {
	for _, sectors := range []int{1, 2, 3, 100, api.MaxSectors - 1, api.MaxSectors} {
		most := sectors * api.Sector
		for _, n := range []int{0, 1, 63, 64, 65, most - 1, most} {
			if n > most {
				continue
			}
			d := newDisk(t, text(n), sectors)
			b := d.Bytes()
			if len(b) != most || !bytes.Equal(b[:n], text(n)) || !bytes.Equal(b[n:], make([]byte, most-n)) {
				t.Errorf("New(%d bytes, %d): %d bytes, others than they must be", n, sectors, len(b))
			}
			if d.Size() != sectors || !d.Up() || d.Strokes() != 0 || d.Held() != 0 {
				t.Errorf("New(%d bytes, %d): size %d, up %v, strokes %d, held %d", n, sectors, d.Size(), d.Up(), d.Strokes(), d.Held())
			}
		}
		for _, n := range []int{most + 1, most + 64, 2*most + 9} {
			if d, e := disk.New(make([]byte, n), sectors); e != api.ErrArg || d != nil {
				t.Errorf("New(%d bytes, %d): error %d", n, sectors, e)
			}
		}
	}
	for _, sectors := range append([]int{0, -64, api.MaxSectors + 1, 2 * api.MaxSectors}, ends...) {
		for _, n := range []int{0, 1, 64, 1 << 20} {
			if d, e := disk.New(make([]byte, n), sectors); e != api.ErrArg || d != nil {
				t.Errorf("New(%d bytes, %d): error %d", n, sectors, e)
			}
		}
	}
}

// P7.1 to P7.4: a disk that is nil, or that New did not make.
func TestNoDisk(t *testing.T) {
	for _, d := range []*disk.Disk{nil, {}} {
		if d.Size() != 0 || d.Up() || d.Strokes() != 0 || d.Held() != 0 || d.Bytes() != nil || d.Copy() != nil {
			t.Error("no disk is told to be something")
		}
		for _, at := range append([]int{0, 1}, ends...) {
			if b, e := d.Read(at); e != api.ErrNil || b != nil {
				t.Errorf("Read(%d): %v and error %d", at, b, e)
			}
			for _, b := range [][]byte{nil, full(1), make([]byte, 65)} {
				if e := d.Write(at, b); e != api.ErrNil {
					t.Errorf("Write(%d, %d bytes): error %d", at, len(b), e)
				}
				if e := disk.Save(d, at, b); e != api.ErrNil {
					t.Errorf("Save(%d, %d bytes): error %d", at, len(b), e)
				}
			}
			for _, n := range append([]int{0, 1}, ends...) {
				if b, e := disk.Load(d, at, n); e != api.ErrNil || b != nil {
					t.Errorf("Load(%d, %d): %v and error %d", at, n, b, e)
				}
			}
			for _, c := range [][]bool{nil, bits("1"), make([]bool, api.MaxCut+1)} {
				if e := d.Set(at, c); e != api.ErrNil {
					t.Errorf("Set(%d, %d bits): error %d", at, len(c), e)
				}
			}
		}
		if e := d.Flush(); e != api.ErrNil {
			t.Errorf("Flush: error %d", e)
		}
		d.Lose(nil)
		d.Lose(bits("11"))
		d.Start()
		if d.Up() {
			t.Error("no disk is up")
		}
	}
}

// P7.2
func TestReadWriteFlush(t *testing.T) {
	b := text(100)
	d := newDisk(t, b, 3)
	reads := func(at int, want []byte) {
		t.Helper()
		if s, e := d.Read(at); e != api.OK || !bytes.Equal(s, want) {
			t.Errorf("Read(%d): %v and error %d", at, s, e)
		}
	}
	second := append(bytes.Clone(b[64:]), make([]byte, 28)...)
	reads(0, b[:64])
	reads(1, second)
	reads(2, full(0))
	done(t, d.Write(0, full(7)))
	reads(0, full(7))
	done(t, d.Write(2, full(8)))
	done(t, d.Write(0, full(9)))
	reads(0, full(9)) // the last one that is held
	reads(1, second)
	reads(2, full(8))
	if d.Held() != 3 || d.Strokes() != 3 || !bytes.Equal(d.Bytes()[:100], b) || d.Bytes()[128] != 0 {
		t.Errorf("held %d, strokes %d, or bytes that were not flushed", d.Held(), d.Strokes())
	}
	done(t, d.Flush())
	if d.Held() != 0 || d.Strokes() != 4 || !bytes.Equal(d.Bytes(), bytes.Join([][]byte{full(9), second, full(8)}, nil)) {
		t.Errorf("held %d, strokes %d, or bytes that were flushed otherwise", d.Held(), d.Strokes())
	}
	reads(0, full(9))
	done(t, d.Flush()) // of none: a stroke, too
	if d.Strokes() != 5 {
		t.Errorf("strokes %d", d.Strokes())
	}
	done(t, d.Write(0, full(1)))
	if d.Held() != 1 || d.Strokes() != 6 {
		t.Errorf("held %d, strokes %d", d.Held(), d.Strokes())
	}
	reads(0, full(1))
	reads(2, full(8)) // what was held ahead of a flush is gone
}

// P7.2, P7.9
func TestReadAndWriteRefuse(t *testing.T) {
	for _, sectors := range []int{1, 3, api.MaxSectors} {
		d := newDisk(t, text(64), sectors)
		done(t, d.Set(0, nil)) // a stroke would be seen
		for _, at := range append([]int{sectors, sectors + 1, 2 * sectors, -sectors}, ends...) {
			if b, e := d.Read(at); e != api.ErrPlace || b != nil {
				t.Errorf("Read(%d) of %d: %v and error %d", at, sectors, b, e)
			}
			for _, n := range []int{64, 0, 63, 65} {
				if e := d.Write(at, make([]byte, n)); e != api.ErrPlace {
					t.Errorf("Write(%d, %d bytes) of %d: error %d", at, n, sectors, e)
				}
			}
		}
		for _, n := range []int{0, 1, 63, 65, 128, 1 << 16} {
			for _, at := range []int{0, sectors - 1} {
				if e := d.Write(at, make([]byte, n)); e != api.ErrArg {
					t.Errorf("Write(%d, %d bytes): error %d", at, n, e)
				}
			}
		}
		if e := d.Write(0, nil); e != api.ErrArg {
			t.Errorf("Write(0, nil): error %d", e)
		}
		if d.Held() != 0 || d.Strokes() != 0 || !d.Up() || !bytes.Equal(d.Bytes()[:64], text(64)) {
			t.Error("what is refused changes the disk")
		}
		d.Lose(nil)
		for _, at := range append([]int{0, sectors}, ends...) {
			if b, e := d.Read(at); e != api.ErrDown || b != nil {
				t.Errorf("Read(%d): %v and error %d", at, b, e)
			}
			for _, n := range []int{0, 64, 65} {
				if e := d.Write(at, make([]byte, n)); e != api.ErrDown {
					t.Errorf("Write(%d, %d bytes): error %d", at, n, e)
				}
			}
		}
		if e := d.Flush(); e != api.ErrDown {
			t.Errorf("Flush: error %d", e)
		}
		if d.Strokes() != 0 || d.Up() || d.Held() != 0 {
			t.Errorf("strokes %d, up %v, held %d of a disk that is down", d.Strokes(), d.Up(), d.Held())
		}
	}
}

// P7.1
func TestCopy(t *testing.T) {
	d := newDisk(t, text(200), 4)
	done(t, d.Write(1, full(1)))
	done(t, d.Write(1, full(2)))
	done(t, d.Set(1, bits("101")))
	c := d.Copy()
	if !bytes.Equal(c.Bytes(), d.Bytes()) || c.Held() != 2 || c.Strokes() != 2 || c.Size() != 4 || !c.Up() {
		t.Error("a copy is another one")
	}
	done(t, c.Write(0, full(3)))
	if d.Held() != 2 || d.Strokes() != 2 {
		t.Error("a write of a copy changes the disk")
	}
	done(t, d.Write(2, full(4)))
	for i, x := range []*disk.Disk{c, d} {
		if b, e := x.Read(0); e != api.OK || (b[0] == 3) != (i == 0) {
			t.Errorf("disk %d: Read(0) begins with %d, error %d", i, b[0], e)
		}
		if b, e := x.Read(2); e != api.OK || (b[0] == 4) != (i == 1) {
			t.Errorf("disk %d: Read(2) begins with %d, error %d", i, b[0], e)
		}
	}
	if e := c.Write(3, full(5)); e != api.ErrDown || c.Up() {
		t.Errorf("the copy's power does not go: error %d", e)
	}
	if b := c.Bytes(); b[0] != 3 || b[64] != 1 || b[192] == 5 {
		t.Error("the copy's choice is another one")
	}
	if e := d.Flush(); e != api.ErrDown || d.Up() {
		t.Errorf("the disk's power does not go: error %d", e)
	}
	if b := d.Bytes(); b[0] != text(200)[0] || b[64] != 1 || b[128] != 4 {
		t.Error("the disk's choice is another one")
	}
	down := d.Copy()
	if down.Up() || down.Strokes() != d.Strokes() {
		t.Error("a copy of a disk that is down is up")
	}
	down.Start()
	if d.Up() || !down.Up() {
		t.Error("a copy is started with the disk")
	}
}

// Rule 3
func TestMemoryIsNotShared(t *testing.T) {
	b, s := text(100), full(5)
	d := newDisk(t, b, 2)
	c := bits("1111")
	done(t, d.Write(0, s))
	done(t, d.Set(1, c))
	clear(b)
	clear(s)
	clear(c)
	if x := d.Bytes(); !bytes.Equal(x[:100], text(100)) {
		t.Error("New keeps what it was given")
	}
	x, _ := d.Read(0)
	y, _ := disk.Load(d, 0, 128)
	if !bytes.Equal(x, full(5)) || !bytes.Equal(y[:64], full(5)) {
		t.Error("Write keeps what it was given")
	}
	clear(x)
	clear(y)
	x, _ = d.Read(1)
	clear(x)
	clear(d.Bytes())
	if x, _ := d.Read(0); !bytes.Equal(x, full(5)) {
		t.Error("Read hands out a held write")
	}
	if x, _ := d.Read(1); !bytes.Equal(x[:36], text(100)[64:]) {
		t.Error("Read or Bytes hand out the disk's bytes")
	}
	k := d.Copy()
	done(t, d.Flush())
	if e := d.Write(1, full(6)); e != api.ErrDown || d.Bytes()[64] != 6 {
		t.Errorf("Set keeps what it was given: error %d", e)
	}
	done(t, k.Flush())
	clear(k.Bytes())
	if e := k.Write(1, full(7)); e != api.ErrDown || k.Bytes()[64] != 7 || d.Bytes()[64] != 6 {
		t.Error("a copy shares memory with the disk")
	}
}

// P7.1 to P7.4: steps of chance, held against a model of the document's words.
func TestStepsOfChance(t *testing.T) {
	for seed := range int64(300) {
		r := rand.New(rand.NewSource(seed))
		sectors := 1 + r.Intn(5)
		b := text(r.Intn(sectors*api.Sector + 1))
		d, m := newDisk(t, b, sectors), newModel(b, sectors)
		for range 200 {
			step(t, r, d, m)
			holds(t, d, m)
		}
	}
}
