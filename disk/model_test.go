package disk_test

import (
	"bytes"
	"math"
	"math/rand"
	"slices"
	"testing"

	"imprimatur/api"
	"imprimatur/disk"
)

// ends are numbers far out of all bounds.
var ends = []int{math.MinInt, math.MinInt + 1, -1 << 32, -1, math.MaxInt - 1, math.MaxInt, 1 << 32}

// text is n bytes of chance, the same ones each time.
func text(n int) []byte {
	b := make([]byte, n)
	rand.New(rand.NewSource(int64(n) + 1)).Read(b)
	return b
}

// full is a sector that has this byte everywhere.
func full(x int) []byte {
	return bytes.Repeat([]byte{byte(x)}, api.Sector)
}

// bits are bits, told by a text of digits.
func bits(s string) []bool {
	l := make([]bool, len(s))
	for i := range s {
		l[i] = s[i] == '1'
	}
	return l
}

// someBits are n bits of chance.
func someBits(r *rand.Rand, n int) []bool {
	l := make([]bool, n)
	for i := range l {
		l[i] = r.Intn(2) == 0
	}
	return l
}

func newDisk(t *testing.T, b []byte, sectors int) *disk.Disk {
	t.Helper()
	d, e := disk.New(b, sectors)
	if e != api.OK || d == nil {
		t.Fatalf("New(%d bytes, %d): error %d", len(b), sectors, e)
	}
	return d
}

// done tells of a call that did not go well.
func done(t *testing.T, e api.Errno) {
	t.Helper()
	if e != api.OK {
		t.Fatalf("error %d", e)
	}
}

// waiting is a held write of the model.
type waiting struct {
	at int
	b  []byte
}

// model is a disk as the document tells it, in plain steps.
type model struct {
	sectors [][]byte
	held    []waiting
	up      bool
	strokes int
	goesAt  int // the stroke at which the power goes; -1, if none is set
	choice  []bool
}

func newModel(b []byte, sectors int) *model {
	m := &model{up: true, goesAt: -1}
	b = append(bytes.Clone(b), make([]byte, sectors*api.Sector-len(b))...)
	for i := range sectors {
		m.sectors = append(m.sectors, b[i*api.Sector:(i+1)*api.Sector])
	}
	return m
}

func (m *model) copy() *model {
	c := *m
	c.sectors = nil
	for _, s := range m.sectors {
		c.sectors = append(c.sectors, bytes.Clone(s))
	}
	c.held = slices.Clone(m.held)
	return &c
}

func (m *model) lose(choice []bool) {
	if !m.up {
		return
	}
	for i, w := range m.held {
		if i < api.MaxCut && i < len(choice) && choice[i] {
			m.sectors[w.at] = w.b
		}
	}
	m.held, m.up = nil, false
}

// stroke counts, and tells whether the power went.
func (m *model) stroke() bool {
	m.strokes++
	if m.goesAt < 0 || m.strokes <= m.goesAt {
		return false
	}
	m.lose(m.choice)
	return true
}

func (m *model) read(at int) ([]byte, api.Errno) {
	switch {
	case !m.up:
		return nil, api.ErrDown
	case at < 0 || at >= len(m.sectors):
		return nil, api.ErrPlace
	}
	b := m.sectors[at]
	for _, w := range m.held {
		if w.at == at {
			b = w.b
		}
	}
	return b, api.OK
}

func (m *model) write(at int, b []byte) api.Errno {
	if _, e := m.read(at); e != api.OK {
		return e
	}
	if len(b) != api.Sector {
		return api.ErrArg
	}
	m.held = append(m.held, waiting{at, bytes.Clone(b)})
	if m.stroke() {
		return api.ErrDown
	}
	return api.OK
}

func (m *model) flush() api.Errno {
	if !m.up || m.stroke() {
		return api.ErrDown
	}
	for _, w := range m.held {
		m.sectors[w.at] = w.b
	}
	m.held = nil
	return api.OK
}

// fits tells whether n bytes from a sector on are there.
func (m *model) fits(at, n int) bool {
	if at < 0 || at > len(m.sectors) {
		return false
	}
	return n <= (len(m.sectors)-at)*api.Sector
}

func (m *model) load(at, n int) ([]byte, api.Errno) {
	switch {
	case !m.up:
		return nil, api.ErrDown
	case n < 0:
		return nil, api.ErrArg
	case !m.fits(at, n):
		return nil, api.ErrPlace
	}
	var all []byte
	for i := range m.sectors[at:] {
		s, _ := m.read(at + i)
		all = append(all, s...)
	}
	return all[:n], api.OK
}

func (m *model) save(at int, b []byte) api.Errno {
	switch {
	case !m.up:
		return api.ErrDown
	case !m.fits(at, len(b)):
		return api.ErrPlace
	}
	for len(b)%api.Sector != 0 {
		b = append(slices.Clip(b), 0)
	}
	for i := range len(b) / api.Sector {
		if e := m.write(at+i, b[i*api.Sector:(i+1)*api.Sector]); e != api.OK {
			return e
		}
	}
	return api.OK
}

func (m *model) set(strokes int, choice []bool) api.Errno {
	switch {
	case strokes < 0:
		return api.ErrArg
	case len(choice) > api.MaxCut:
		return api.ErrLong
	}
	m.goesAt, m.choice = math.MaxInt, slices.Clone(choice)
	if strokes < math.MaxInt-m.strokes {
		m.goesAt = m.strokes + strokes
	}
	return api.OK
}

func (m *model) start() {
	m.up, m.goesAt = true, -1
}

// holds tells of a disk that is not as its model is.
func holds(t *testing.T, d *disk.Disk, m *model) {
	t.Helper()
	if d.Up() != m.up || d.Held() != len(m.held) || d.Strokes() != m.strokes || d.Size() != len(m.sectors) {
		t.Fatalf("up %v, held %d, strokes %d, size %d, not %v, %d, %d, %d",
			d.Up(), d.Held(), d.Strokes(), d.Size(), m.up, len(m.held), m.strokes, len(m.sectors))
	}
	if !bytes.Equal(d.Bytes(), bytes.Join(m.sectors, nil)) {
		t.Fatal("Bytes are other ones than they must be")
	}
	for at := range m.sectors {
		b, e := d.Read(at)
		if c, f := m.read(at); e != f || !bytes.Equal(b, c) {
			t.Fatalf("Read(%d): %v and error %d, not %v and error %d", at, b, e, c, f)
		}
	}
}

// step does one thing of chance to a disk and to its model, and tells of errors that are not the same.
func step(t *testing.T, r *rand.Rand, d *disk.Disk, m *model) {
	t.Helper()
	at := r.Intn(len(m.sectors)+3) - 1
	b := make([]byte, []int{64, 64, 64, 64, 64, 64, 63, 65, 0}[r.Intn(9)])
	r.Read(b)
	var got, want api.Errno
	kind := r.Intn(16)
	switch kind {
	case 0, 1, 2, 3, 4, 5:
		got, want = d.Write(at, b), m.write(at, b)
	case 6:
		got, want = d.Flush(), m.flush()
	case 7, 8:
		b = make([]byte, r.Intn(200))
		r.Read(b)
		got, want = disk.Save(d, at, b), m.save(at, b)
	case 9, 10:
		n := r.Intn(200) - 2
		x, e := disk.Load(d, at, n)
		y, f := m.load(at, n)
		if !bytes.Equal(x, y) || e != api.OK && x != nil {
			t.Fatalf("Load(%d, %d): %v and error %d, not %v and error %d", at, n, x, e, y, f)
		}
		got, want = e, f
	case 11:
		strokes, choice := r.Intn(12)-1, someBits(r, r.Intn(14))
		got, want = d.Set(strokes, choice), m.set(strokes, choice)
	case 12:
		choice := someBits(r, r.Intn(14))
		if r.Intn(3) == 0 {
			d.Lose(choice)
			m.lose(choice)
		}
	default:
		if !m.up || r.Intn(10) == 0 {
			d.Start()
			m.start()
		}
	}
	if got != want {
		t.Fatalf("of kind %d, at %d, %d bytes: error %d, not %d", kind, at, len(b), got, want)
	}
}
