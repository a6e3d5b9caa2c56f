package disk_test

import (
	"bytes"
	"fmt"
	"math/rand"
	"testing"

	"imprimatur/api"
	"imprimatur/disk"
)

// begun tells with which byte each sector begins.
func begun(d *disk.Disk) string {
	b, s := d.Bytes(), ""
	for at := range d.Size() {
		s += fmt.Sprint(b[at*api.Sector], " ")
	}
	return s
}

// P7.3: the i-th held write is put if the i-th bit is 1, in order.
func TestLose(t *testing.T) {
	for choice, want := range map[string]string{
		"": "0 0 0 ", "0000": "0 0 0 ", "1": "1 0 0 ", "01": "0 2 0 ", "11": "1 2 0 ", "001": "3 0 0 ", "101": "3 0 0 ", "0001": "0 0 4 ",
		"1100": "1 2 0 ", "1111": "3 2 4 ", "11011": "1 2 4 ", "00001111": "0 0 0 ", "000": "0 0 0 ", "0101": "0 2 4 ", "0110": "3 2 0 ",
	} {
		d := newDisk(t, nil, 3)
		for i, at := range []int{0, 1, 0, 2} {
			done(t, d.Write(at, full(i+1)))
		}
		d.Lose(bits(choice))
		if begun(d) != want || d.Up() || d.Held() != 0 || d.Strokes() != 4 {
			t.Errorf("Lose(%q): sectors %s, up %v, held %d, strokes %d", choice, begun(d), d.Up(), d.Held(), d.Strokes())
		}
		d.Lose(bits("1111")) // it is down: nothing is lost any more
		d.Start()
		if begun(d) != want || !d.Up() || d.Held() != 0 || d.Strokes() != 4 {
			t.Errorf("Lose(%q) and Start: sectors %s, up %v, held %d, strokes %d", choice, begun(d), d.Up(), d.Held(), d.Strokes())
		}
		done(t, d.Flush())
		if begun(d) != want {
			t.Errorf("Lose(%q), Start and Flush: sectors %s", choice, begun(d))
		}
	}
}

// P7.3: of a choice longer than MaxCut the first bits count.
func TestLoseWithALongChoice(t *testing.T) {
	for _, n := range []int{api.MaxCut - 1, api.MaxCut, api.MaxCut + 1, 2 * api.MaxCut} {
		d := newDisk(t, nil, api.MaxSectors)
		for i := range api.MaxCut + 3 {
			done(t, d.Write(i, full(1)))
		}
		choice := make([]bool, n)
		for i := range choice {
			choice[i] = true
		}
		d.Lose(choice)
		if b := d.Bytes(); bytes.Count(b, full(1)) != min(n, api.MaxCut) || b[(min(n, api.MaxCut)-1)*api.Sector] != 1 {
			t.Errorf("Lose with %d bits: %d writes were put", n, bytes.Count(b, full(1)))
		}
	}
}

// P7.3
func TestSet(t *testing.T) {
	strokes := func(d *disk.Disk, l string) (errors string) {
		for i, c := range l {
			e := d.Flush
			if c == 'w' {
				e = func() api.Errno { return d.Write(i%d.Size(), full(i+1)) }
			}
			errors += fmt.Sprint(e(), " ")
		}
		return errors
	}
	for _, c := range []struct {
		wait    int
		choice  string
		strokes string
		errors  string
		sectors string
	}{
		{0, "1", "ww", "60 60 ", "1 0 0 "},
		{0, "0", "ww", "60 60 ", "0 0 0 "},
		{0, "", "w", "60 ", "0 0 0 "},
		{0, "111", "fw", "60 60 ", "0 0 0 "},
		{1, "01", "www", "0 60 60 ", "0 2 0 "},
		{1, "11", "www", "0 60 60 ", "1 2 0 "},
		{1, "1", "wf", "0 60 ", "1 0 0 "},
		{1, "0", "wf", "0 60 ", "0 0 0 "},
		{2, "01", "wff", "0 0 60 ", "1 0 0 "},
		{2, "1", "wfw", "0 0 60 ", "1 0 3 "},
		{2, "0", "wfw", "0 0 60 ", "1 0 0 "},
		{3, "1001", "wwww", "0 0 0 60 ", "4 0 0 "},
		{3, "1000", "wwww", "0 0 0 60 ", "1 0 0 "},
		{5, "", "wwwf", "0 0 0 0 ", "1 2 3 "},
	} {
		d := newDisk(t, nil, 3)
		done(t, d.Set(c.wait, bits(c.choice)))
		if e := strokes(d, c.strokes); e != c.errors || begun(d) != c.sectors {
			t.Errorf("Set(%d, %s), %s: errors %s, sectors %s", c.wait, c.choice, c.strokes, e, begun(d))
		}
		if d.Strokes() != min(c.wait+1, len(c.strokes)) {
			t.Errorf("Set(%d, %s), %s: %d strokes", c.wait, c.choice, c.strokes, d.Strokes())
		}
	}
}

// P7.3: what is set stands in the place of what was; reads are no strokes; Start ends it.
func TestSetAgain(t *testing.T) {
	d := newDisk(t, nil, 3)
	done(t, d.Set(0, bits("1")))
	done(t, d.Set(2, bits("001")))
	for range 5 {
		d.Read(0)
		disk.Load(d, 0, 192)
		disk.Save(d, 3, nil)
		d.Write(3, full(1))
		d.Write(0, nil)
		d.Copy().Flush()
	}
	done(t, d.Write(0, full(1)))
	done(t, d.Write(1, full(2)))
	if e := d.Write(2, full(3)); e != api.ErrDown || begun(d) != "0 0 3 " {
		t.Errorf("error %d, sectors %s", e, begun(d))
	}
	d.Start()
	for range 5 {
		done(t, d.Write(0, full(4)))
		done(t, d.Flush())
	}
	done(t, d.Set(0, nil))
	d.Start() // it is up; nothing is set any more
	done(t, d.Write(1, full(5)))
	done(t, d.Set(1, nil))
	d.Lose(nil)
	d.Start()
	done(t, d.Flush())
	done(t, d.Flush())
	d.Lose(nil)
	done(t, d.Set(0, nil)) // of a disk that is down
	d.Start()
	done(t, d.Write(1, full(6)))
	done(t, d.Flush())
	if begun(d) != "4 6 3 " {
		t.Errorf("sectors %s", begun(d))
	}
}

// P7.3: Start of a disk that is up leaves what is held.
func TestStartKeepsHeldWrites(t *testing.T) {
	d := newDisk(t, nil, 1)
	done(t, d.Write(0, full(1)))
	d.Start()
	if b, e := d.Read(0); e != api.OK || b[0] != 1 || d.Held() != 1 || d.Strokes() != 1 {
		t.Errorf("begins with %d, error %d, held %d", b[0], e, d.Held())
	}
	done(t, d.Flush())
	if begun(d) != "1 " {
		t.Errorf("sectors %s", begun(d))
	}
}

// P7.3, P7.9
func TestSetRefuses(t *testing.T) {
	long := make([]bool, api.MaxCut+1)
	for _, down := range []bool{false, true} {
		d := newDisk(t, nil, 1)
		if down {
			d.Lose(nil)
		}
		for _, n := range ends {
			if n < 0 {
				for _, c := range [][]bool{nil, bits("1"), long} {
					if e := d.Set(n, c); e != api.ErrArg {
						t.Errorf("Set(%d, %d bits): error %d", n, len(c), e)
					}
				}
			} else {
				done(t, d.Set(n, nil))
			}
			if e := d.Set(max(n, 0), long); e != api.ErrLong {
				t.Errorf("Set(%d, too many bits): error %d", n, e)
			}
		}
		done(t, d.Set(0, long[1:]))
		d.Start()
	}
	d := newDisk(t, nil, 1)
	done(t, d.Set(1, bits("01")))
	d.Set(-1, nil)
	d.Set(0, long)
	done(t, d.Write(0, full(1)))
	if e := d.Write(0, full(2)); e != api.ErrDown || begun(d) != "2 " {
		t.Errorf("what is refused changes what is set: error %d, sectors %s", e, begun(d))
	}
}

// W2, P7.5: what was flushed is there behind any loss of power.
func TestFlushedBytesStay(t *testing.T) {
	for seed := range int64(300) {
		r := rand.New(rand.NewSource(seed))
		d := newDisk(t, text(512), 8)
		for range r.Intn(20) {
			done(t, d.Write(r.Intn(8), full(r.Intn(256))))
		}
		done(t, d.Flush())
		flushed := d.Bytes()
		written := map[int]bool{}
		done(t, d.Set(r.Intn(12), someBits(r, 12)))
		for range r.Intn(12) {
			at := r.Intn(8)
			written[at] = true
			if d.Write(at, full(r.Intn(256))) != api.OK {
				break
			}
		}
		d.Lose(someBits(r, 12))
		d.Start()
		for at := range 8 {
			b, e := d.Read(at)
			if e != api.OK || !written[at] && !bytes.Equal(b, flushed[at*api.Sector:(at+1)*api.Sector]) {
				t.Fatalf("the sector %d, flushed and not written, is lost: error %d", at, e)
			}
		}
	}
}

// W2, P7.6: each sector has bytes that it had, or that a held write had for it.
func TestSectorsAreWholeBehindALoss(t *testing.T) {
	for seed := range int64(300) {
		r := rand.New(rand.NewSource(seed))
		d := newDisk(t, text(512), 8)
		may := make([][][]byte, 8)
		for at := range may {
			b, _ := d.Read(at)
			may[at] = [][]byte{b}
		}
		if seed%2 == 0 {
			done(t, d.Set(r.Intn(20), someBits(r, 20)))
		}
		for range r.Intn(20) {
			at, b := r.Intn(8), make([]byte, api.Sector)
			r.Read(b)
			may[at] = append(may[at], b)
			if d.Write(at, b) != api.OK {
				break
			}
		}
		d.Lose(someBits(r, r.Intn(20)))
		d.Start()
		for at := range may {
			b, _ := d.Read(at)
			found := false
			for _, x := range may[at] {
				found = found || bytes.Equal(b, x)
			}
			if !found {
				t.Fatalf("the sector %d has bytes that nobody wrote", at)
			}
		}
	}
}

// P7.7
func TestWhatIsWrittenIsRead(t *testing.T) {
	r := rand.New(rand.NewSource(1))
	d := newDisk(t, nil, 8)
	last := make([][]byte, 8)
	for at := range last {
		last[at] = full(0)
	}
	for range 2000 {
		at, b := r.Intn(8), make([]byte, api.Sector)
		r.Read(b)
		done(t, d.Write(at, b))
		last[at] = b
		if r.Intn(5) == 0 {
			done(t, d.Flush())
		}
		for at, want := range last {
			if b, e := d.Read(at); e != api.OK || !bytes.Equal(b, want) {
				t.Fatalf("Read(%d): error %d, or other bytes than were written", at, e)
			}
		}
	}
}

// P7.8: whatever is done to a disk and to its copy, they answer likewise; what is done to one of them is no matter to the other one.
func TestCopiesGoOnAsTheDisk(t *testing.T) {
	for seed := range int64(200) {
		r := rand.New(rand.NewSource(seed))
		d, m := newDisk(t, text(100), 3), newModel(text(100), 3)
		for range r.Intn(40) {
			step(t, r, d, m)
		}
		c, k := d.Copy(), m.copy()
		holds(t, c, m)
		for range 40 {
			step(t, r, d, m)
		}
		holds(t, c, k)
		before := m.copy()
		for range 40 {
			step(t, r, c, k)
		}
		holds(t, c, k)
		holds(t, d, before)
	}
}
