package wire_test

import (
	"bytes"
	"math"
	"math/rand"
	"testing"

	"imprimatur/api"
	"imprimatur/wire"
)

// counts are numbers with their counts' bytes, at the edges of each length.
func counts() []struct {
	n    uint64
	want []byte
} {
	return []struct {
		n    uint64
		want []byte
	}{
		{0, []byte{0}}, {1, []byte{1}}, {190, []byte{190}}, {191, []byte{191}},
		{192, []byte{192, 192}}, {199, []byte{192, 199}}, {200, []byte{192, 200}}, {255, []byte{192, 255}},
		{256, []byte{193, 1, 0}}, {1<<16 - 1, []byte{193, 255, 255}},
		{1 << 16, []byte{194, 1, 0, 0}}, {1<<24 - 1, []byte{194, 255, 255, 255}},
		{1 << 24, []byte{195, 1, 0, 0, 0}}, {0x01020304, []byte{195, 1, 2, 3, 4}}, {1<<32 - 1, []byte{195, 255, 255, 255, 255}},
		{1 << 32, []byte{196, 1, 0, 0, 0, 0}}, {1<<40 - 1, []byte{196, 255, 255, 255, 255, 255}},
		{1 << 40, []byte{197, 1, 0, 0, 0, 0, 0}}, {1<<48 - 1, []byte{197, 255, 255, 255, 255, 255, 255}},
		{1 << 48, []byte{198, 1, 0, 0, 0, 0, 0, 0}}, {1<<56 - 1, []byte{198, 255, 255, 255, 255, 255, 255, 255}},
		{1 << 56, []byte{199, 1, 0, 0, 0, 0, 0, 0, 0}}, {0x0102030405060708, []byte{199, 1, 2, 3, 4, 5, 6, 7, 8}},
		{1 << 63, []byte{199, 128, 0, 0, 0, 0, 0, 0, 0}}, {math.MaxUint64, []byte{199, 255, 255, 255, 255, 255, 255, 255, 255}},
	}
}

// P3.1
func TestCount(t *testing.T) {
	for _, c := range counts() {
		if got := wire.Count(c.n); !bytes.Equal(got, c.want) {
			t.Errorf("Count(%d): %v, not %v", c.n, got, c.want)
		}
	}
	clear(wire.Count(256))
	if got := wire.Count(256); !bytes.Equal(got, []byte{193, 1, 0}) {
		t.Error("Count hands out memory twice")
	}
}

// P3.1
func TestReadCount(t *testing.T) {
	for _, c := range counts() {
		for _, ahead := range []int{0, 1, 5} {
			for _, behind := range []int{0, 1, 12} {
				b := bytes.Repeat([]byte{201}, ahead)
				b = append(append(b, c.want...), make([]byte, behind)...)
				n, at, e := wire.ReadCount(b, ahead)
				if n != c.n || at != ahead+len(c.want) || e != api.OK {
					t.Errorf("ReadCount(%v, %d): %d, %d and error %d, not %d", b, ahead, n, at, e, c.n)
				}
			}
		}
	}
}

// P3.1
func TestCountsGoThereAndBack(t *testing.T) {
	r := rand.New(rand.NewSource(1))
	l := []uint64{}
	for n := range uint64(70000) {
		l = append(l, n)
	}
	for range 2000 {
		l = append(l, r.Uint64()>>r.Intn(64))
	}
	for _, n := range l {
		b := wire.Count(n)
		if m, at, e := wire.ReadCount(b, 0); m != n || at != len(b) || e != api.OK {
			t.Fatalf("%d is written as %v, and read as %d, %d, error %d", n, b, m, at, e)
		}
		for k := range b {
			if m, at, e := wire.ReadCount(b[:k], 0); m != 0 || at != 0 || e != api.ErrShort {
				t.Fatalf("%v is cut off, and read as %d, %d, error %d", b[:k], m, at, e)
			}
		}
	}
}

// P3.1
func TestReadCountRefuses(t *testing.T) {
	for _, c := range []struct {
		b     []byte
		at    int
		place int
		want  api.Errno
	}{
		{nil, -1, 0, api.ErrArg}, {nil, 1, 0, api.ErrArg}, {[]byte{1, 2}, 3, 0, api.ErrArg}, {[]byte{1, 2}, -1, 0, api.ErrArg},
		{[]byte{1, 2}, math.MinInt, 0, api.ErrArg}, {[]byte{1, 2}, math.MaxInt, 0, api.ErrArg}, {[]byte{200}, 2, 0, api.ErrArg},
		{nil, 0, 0, api.ErrShort}, {[]byte{1, 2}, 2, 2, api.ErrShort},
		{[]byte{200}, 0, 0, api.ErrForm}, {[]byte{255}, 0, 0, api.ErrForm}, {[]byte{7, 200, 1, 1, 1, 1, 1, 1, 1, 1, 1, 1}, 1, 1, api.ErrForm},
		{[]byte{192, 0}, 0, 0, api.ErrForm}, {[]byte{192, 1}, 0, 0, api.ErrForm}, {[]byte{192, 191}, 0, 0, api.ErrForm},
		{[]byte{9, 9, 192, 191, 5}, 2, 2, api.ErrForm},
		{[]byte{193, 0}, 0, 0, api.ErrForm}, {[]byte{193, 0, 255}, 0, 0, api.ErrForm}, {[]byte{199, 0}, 0, 0, api.ErrForm},
		{[]byte{199, 0, 1, 1, 1, 1, 1, 1, 1}, 0, 0, api.ErrForm},
		{[]byte{192}, 0, 0, api.ErrShort}, {[]byte{3, 192}, 1, 1, api.ErrShort}, {[]byte{193}, 0, 0, api.ErrShort}, {[]byte{193, 1}, 0, 0, api.ErrShort},
		{[]byte{193, 191}, 0, 0, api.ErrShort}, {[]byte{5, 199, 1, 0, 0, 0, 0, 0, 0}, 1, 1, api.ErrShort},
	} {
		if n, at, e := wire.ReadCount(c.b, c.at); n != 0 || at != c.place || e != c.want {
			t.Errorf("ReadCount(%v, %d): %d, %d and error %d, not %d and error %d", c.b, c.at, n, at, e, c.place, c.want)
		}
	}
}

// P3.1: what can go on is short, and what can't is wrong, whatever the first two bytes.
func TestReadCountTellsWhatCanGoOn(t *testing.T) {
	for x := range 256 {
		for y := range 256 {
			b := []byte{byte(x), byte(y)}
			n, at, e := wire.ReadCount(b, 0)
			long := append(bytes.Clone(b), make([]byte, 8)...)
			m, end, _ := wire.ReadCount(long, 0)
			goesOn := end > 0 && bytes.Equal(wire.Count(m), long[:end])
			switch {
			case goesOn && end <= 2:
				if n != m || at != end || e != api.OK {
					t.Errorf("ReadCount(%v): %d, %d, error %d", b, n, at, e)
				}
			case goesOn:
				if n != 0 || at != 0 || e != api.ErrShort {
					t.Errorf("ReadCount(%v): %d, %d, error %d, though it can go on", b, n, at, e)
				}
			default:
				if n != 0 || at != 0 || e != api.ErrForm {
					t.Errorf("ReadCount(%v): %d, %d, error %d, though it can't go on", b, n, at, e)
				}
			}
			wrong := x >= 200 || x >= 192 && y == 0 || x == 192 && y < 192
			if wrong == goesOn {
				t.Errorf("%v goes on: %v", b, goesOn)
			}
		}
	}
}
