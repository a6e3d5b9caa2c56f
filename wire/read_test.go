package wire_test

import (
	"bytes"
	"math"
	"math/rand"
	"testing"

	"imprimatur/api"
	"imprimatur/wire"
)

// P3.3
func TestRead(t *testing.T) {
	for _, v := range some() {
		b := spelt(v)
		given := bytes.Clone(b)
		got, at, e := wire.Read(b, endless)
		if e != api.OK || at != 0 || !alike(got, v) {
			t.Fatalf("Read(%v): %v, %d and error %d, not %v", b, got, at, e, v)
		}
		if !bytes.Equal(b, given) {
			t.Fatalf("Read changes %v", given)
		}
	}
}

// P3.3
func TestReadRefuses(t *testing.T) {
	huge := []byte{199, 255, 255, 255, 255, 255, 255, 255, 255}
	for _, c := range []struct {
		b    []byte
		at   int
		want api.Errno
	}{
		{nil, 0, api.ErrShort}, {[]byte{3, 1}, 2, api.ErrShort}, {[]byte{3, 2, 1, 5}, 4, api.ErrShort}, {[]byte{3, 1, 3, 1}, 4, api.ErrShort},
		{[]byte{0}, 0, api.ErrKind}, {[]byte{4}, 0, api.ErrKind}, {[]byte{255, 0}, 0, api.ErrKind}, {[]byte{3, 1, 4}, 2, api.ErrKind}, {[]byte{3, 2, 1, 0, 0}, 4, api.ErrKind},
		{[]byte{1}, 1, api.ErrShort}, {[]byte{2}, 1, api.ErrShort}, {[]byte{3}, 1, api.ErrShort}, {[]byte{3, 1, 1, 192}, 3, api.ErrShort},
		{[]byte{1, 193, 1}, 1, api.ErrShort},
		{[]byte{1, 200}, 1, api.ErrForm}, {[]byte{1, 192, 191}, 1, api.ErrForm}, {[]byte{2, 193, 0}, 1, api.ErrForm}, {[]byte{3, 192, 1, 1, 0}, 1, api.ErrForm},
		{[]byte{3, 2, 1, 0, 2, 255}, 5, api.ErrForm},
		{[]byte{2, 1}, 2, api.ErrShort}, {[]byte{2, 3, 7, 7}, 2, api.ErrShort}, {[]byte{3, 1, 2, 4, 1, 1, 1}, 4, api.ErrShort}, {append([]byte{2, 192, 192}, make([]byte, 191)...), 3, api.ErrShort},
		{[]byte{1, 0, 0}, 2, api.ErrRest}, {[]byte{2, 1, 1, 1}, 3, api.ErrRest}, {[]byte{3, 0, 3}, 2, api.ErrRest}, {[]byte{3, 1, 1, 0, 1, 0}, 4, api.ErrRest},
		{append([]byte{3}, huge...), 10, api.ErrShort}, {append(append([]byte{3}, huge...), 1, 5), 12, api.ErrShort},
		{append([]byte{2}, huge...), 1, api.ErrLong}, {append([]byte{3, 1, 2}, huge...), 3, api.ErrLong},
		{[]byte{2, 195, 128, 0, 0, 0}, 1, api.ErrLong},
		{spelt(nested(17)), 32, api.ErrDeep}, {bytes.Repeat([]byte{3, 1}, 1<<15), 32, api.ErrDeep},
		{make([]byte, 1<<16+1), 0, api.ErrLong}, {make([]byte, 1<<16), 0, api.ErrKind},
	} {
		if v, at, e := wire.Read(c.b, wire.Whole()); !isZero(v) || at != c.at || e != c.want {
			t.Errorf("Read of %d bytes, the first ones %v: %v, %d and error %d, not %d and error %d", len(c.b), c.b[:min(9, len(c.b))], v, at, e, c.at, c.want)
		}
	}
}

// P3.3: a VBytes that is within the limit of each, but of which too few bytes follow, is short, however long it says to be.
func TestReadOfFarTooFewBytes(t *testing.T) {
	b := []byte{2, 199, 127, 255, 255, 255, 255, 255, 255, 255, 1}
	if v, at, e := wire.Read(b, endless); !isZero(v) || at != 10 || e != api.ErrShort {
		t.Errorf("Read: %v, %d and error %d", v, at, e)
	}
	b[2] = 128
	if v, at, e := wire.Read(b, endless); !isZero(v) || at != 1 || e != api.ErrLong {
		t.Errorf("Read: %v, %d and error %d", v, at, e)
	}
}

// P3.3: just so much is allowed, and what is first is told.
func TestReadWithinLimits(t *testing.T) {
	b := spelt(list(num(1), list(piece(1, 2, 3), list()), piece(4))) // 16 bytes, 3 deep, 6 values, 3 bytes in one
	for _, c := range []struct {
		l    wire.Limits
		at   int
		want api.Errno
	}{
		{wire.Limits{Bytes: 16, Deep: 3, Many: 6, Each: 3}, 0, api.OK},
		{wire.Limits{Bytes: 15, Deep: 3, Many: 6, Each: 3}, 0, api.ErrLong}, {wire.Limits{Bytes: 15}, 0, api.ErrLong},
		{wire.Limits{Bytes: -1, Deep: 3, Many: 6, Each: 3}, 0, api.ErrLong},
		{wire.Limits{Bytes: 16, Deep: 2, Many: 6, Each: 3}, 6, api.ErrDeep}, {wire.Limits{Bytes: 16, Deep: 1, Many: 6, Each: 3}, 2, api.ErrDeep},
		{wire.Limits{Bytes: 16, Deep: 0, Many: 6, Each: 3}, 0, api.ErrDeep}, {wire.Limits{Bytes: 16, Deep: -7, Many: -7, Each: -7}, 0, api.ErrDeep},
		{wire.Limits{Bytes: 16, Deep: 3, Many: 5, Each: 3}, 13, api.ErrMany}, {wire.Limits{Bytes: 16, Deep: 3, Many: 1, Each: 3}, 2, api.ErrMany},
		{wire.Limits{Bytes: 16, Deep: 3, Many: 0, Each: 3}, 0, api.ErrMany}, {wire.Limits{Bytes: 16, Deep: 3, Many: math.MinInt, Each: 3}, 0, api.ErrMany},
		{wire.Limits{Bytes: 16, Deep: 3, Many: 6, Each: 2}, 7, api.ErrLong}, {wire.Limits{Bytes: 16, Deep: 3, Many: 6, Each: math.MinInt}, 7, api.ErrLong},
		{wire.Limits{Bytes: 16, Deep: 2, Many: 3, Each: 3}, 6, api.ErrDeep}, {wire.Limits{Bytes: 16, Deep: 3, Many: 3, Each: 2}, 6, api.ErrMany},
	} {
		v, at, e := wire.Read(b, c.l)
		if at != c.at || e != c.want || (e == api.OK) == isZero(v) {
			t.Errorf("Read within %v: %v, %d and error %d, not %d and error %d", c.l, v, at, e, c.at, c.want)
		}
	}
	for _, c := range []struct {
		b    []byte
		l    wire.Limits
		at   int
		want api.Errno
	}{
		{nil, wire.Limits{}, 0, api.ErrShort}, {nil, wire.Limits{Bytes: -1, Deep: -1}, 0, api.ErrShort},
		{[]byte{3, 1}, wire.Limits{Bytes: 2, Deep: 1, Many: 1}, 2, api.ErrShort}, // no byte is told ahead of no room
		{[]byte{9}, wire.Limits{Bytes: 1, Deep: 1}, 0, api.ErrMany}, {[]byte{9}, wire.Limits{Bytes: 1, Many: 1}, 0, api.ErrDeep},
		{[]byte{2, 3, 1}, wire.Limits{Bytes: 9, Deep: 1, Many: 1, Each: 2}, 1, api.ErrLong},
		{[]byte{2, 3, 1}, wire.Limits{Bytes: 9, Deep: 1, Many: 1, Each: 3}, 2, api.ErrShort},
		{[]byte{2, 0}, wire.Limits{Bytes: 2, Deep: 1, Many: 1, Each: -1}, 0, api.OK},
		{[]byte{3, 0}, wire.Limits{Bytes: 2, Deep: 1, Many: 1}, 0, api.OK}, {[]byte{1, 191}, wire.Limits{Bytes: 2, Deep: 1, Many: 1}, 0, api.OK},
	} {
		if v, at, e := wire.Read(c.b, c.l); at != c.at || e != c.want || (e == api.OK) == isZero(v) {
			t.Errorf("Read(%v) within %v: %v, %d and error %d, not %d and error %d", c.b, c.l, v, at, e, c.at, c.want)
		}
	}
}

// wantedFault is what Read's promise says of bytes: the place and the error. It goes through them with a row of how many values the open lists still have.
func wantedFault(b []byte, l wire.Limits) (int, api.Errno) {
	if len(b) > max(l.Bytes, 0) {
		return 0, api.ErrLong
	}
	open, at := []uint64{1}, 0
	for begun := 0; len(open) > 0; {
		if open[len(open)-1] == 0 {
			open = open[:len(open)-1]
			continue
		}
		open[len(open)-1]--
		switch {
		case at == len(b):
			return at, api.ErrShort
		case len(open) > max(l.Deep, 0):
			return at, api.ErrDeep
		case begun >= max(l.Many, 0):
			return at, api.ErrMany
		case b[at] < 1 || b[at] > 3:
			return at, api.ErrKind
		}
		begun++
		n, next, e := wire.ReadCount(b, at+1)
		switch {
		case e != api.OK:
			return at + 1, e
		case b[at] == api.VBytes && n > uint64(max(l.Each, 0)):
			return at + 1, api.ErrLong
		case b[at] == api.VBytes && n > uint64(len(b)-next):
			return next, api.ErrShort
		case b[at] == api.VBytes:
			next += int(n)
		case b[at] == api.VList:
			open = append(open, n)
		}
		at = next
	}
	if at < len(b) {
		return at, api.ErrRest
	}
	return 0, api.OK
}

// asPromised holds Read of bytes against its promise, and tells the error.
func asPromised(t *testing.T, b []byte, l wire.Limits) api.Errno {
	t.Helper()
	v, at, e := wire.Read(b, l)
	place, want := wantedFault(b, l)
	if at != place || e != want || e != api.OK && !isZero(v) || e == api.OK && !bytes.Equal(spelt(v), b) {
		t.Fatalf("Read(%v) within %v: %v, %d and error %d, not %d and error %d", b, l, v, at, e, place, want)
	}
	return e
}

// P3.3: all rows of bytes up to a length, of bytes that mean something.
func TestReadOfAllShortBytes(t *testing.T) {
	of := []byte{0, 1, 2, 3, 4, 192, 200}
	l := wire.Limits{Bytes: 5, Deep: 2, Many: 3, Each: 1}
	var all func(b []byte)
	all = func(b []byte) {
		asPromised(t, b, l)
		asPromised(t, b, endless)
		if len(b) == 6 {
			return
		}
		for _, x := range of {
			all(append(bytes.Clone(b), x))
		}
	}
	all(nil)
}

// P3.3: values' bytes by limits about those that they need, whole and spoilt.
func TestReadByChance(t *testing.T) {
	r := rand.New(rand.NewSource(4))
	seen := map[api.Errno]int{}
	for range 20 {
		for _, v := range some() {
			b, l := spelt(v), tight(r, v)
			seen[asPromised(t, b, l)]++
			b[r.Intn(len(b))] = byte(r.Intn(256))
			seen[asPromised(t, b, l)]++
			seen[asPromised(t, b, endless)]++
			b = append(b, byte(r.Intn(4)))
			seen[asPromised(t, b, endless)]++
		}
	}
	for _, e := range []api.Errno{api.OK, api.ErrLong, api.ErrShort, api.ErrKind, api.ErrForm, api.ErrDeep, api.ErrMany, api.ErrRest} {
		if seen[e] < 20 {
			t.Errorf("error %d came %d times only", e, seen[e])
		}
	}
}
