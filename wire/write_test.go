package wire_test

import (
	"bytes"
	"math"
	"math/rand"
	"testing"

	"imprimatur/api"
	"imprimatur/wire"
)

// P3.2
func TestWhole(t *testing.T) {
	if got := wire.Whole(); got != (wire.Limits{Bytes: 1 << 16, Deep: 16, Many: 1 << 14, Each: 1 << 16}) {
		t.Errorf("Whole: %v", got)
	}
}

// P3.2
func TestWrite(t *testing.T) {
	zeros := make([]byte, 192)
	for _, c := range []struct {
		v    api.Node
		want []byte
	}{
		{num(0), []byte{1, 0}}, {num(191), []byte{1, 191}}, {num(192), []byte{1, 192, 192}}, {num(256), []byte{1, 193, 1, 0}},
		{num(math.MaxUint64), []byte{1, 199, 255, 255, 255, 255, 255, 255, 255, 255}},
		{piece(), []byte{2, 0}}, {piece(7, 8), []byte{2, 2, 7, 8}},
		{piece(zeros[:191]...), append([]byte{2, 191}, zeros[:191]...)}, {piece(zeros...), append([]byte{2, 192, 192}, zeros...)},
		{list(), []byte{3, 0}}, {list(num(5), piece()), []byte{3, 2, 1, 5, 2, 0}},
		{list(list(num(1), list()), piece(9), num(2)), []byte{3, 3, 3, 2, 1, 1, 3, 0, 2, 1, 9, 1, 2}},
		{list(make191()[:3]...), []byte{3, 3, 1, 0, 1, 1, 1, 2}},
	} {
		if got, e := wire.Write(c.v, wire.Whole()); e != api.OK || !bytes.Equal(got, c.want) {
			t.Errorf("Write(%v): %v and error %d, not %v", c.v, got, e, c.want)
		}
	}
	many := make([]api.Node, 300)
	for i := range many {
		many[i] = num(7)
	}
	want := append([]byte{3, 193, 1, 44}, bytes.Repeat([]byte{1, 7}, 300)...)
	if got, e := wire.Write(list(many...), wire.Whole()); e != api.OK || !bytes.Equal(got, want) {
		t.Errorf("Write of 300 values: %v and error %d", got, e)
	}
}

// P3.2: just so much is allowed, and one more is not.
func TestWriteWithinLimits(t *testing.T) {
	v := list(num(1), list(piece(1, 2, 3), list()), piece(4)) // 16 bytes, 3 deep, 6 values, 3 bytes in one
	for _, c := range []struct {
		l    wire.Limits
		want api.Errno
	}{
		{wire.Limits{Bytes: 16, Deep: 3, Many: 6, Each: 3}, api.OK},
		{wire.Limits{Bytes: 15, Deep: 3, Many: 6, Each: 3}, api.ErrLong},
		{wire.Limits{Bytes: 16, Deep: 2, Many: 6, Each: 3}, api.ErrDeep},
		{wire.Limits{Bytes: 16, Deep: 3, Many: 5, Each: 3}, api.ErrMany},
		{wire.Limits{Bytes: 16, Deep: 3, Many: 6, Each: 2}, api.ErrLong},
		{wire.Limits{}, api.ErrDeep}, {wire.Limits{Bytes: -1, Deep: -1, Many: -1, Each: -1}, api.ErrDeep},
		{wire.Limits{Bytes: 16, Deep: 3, Many: -1, Each: 3}, api.ErrMany},
		{wire.Limits{Bytes: 16, Deep: 3, Many: 6, Each: -1}, api.ErrLong},
		{wire.Limits{Bytes: math.MinInt, Deep: 3, Many: 6, Each: 3}, api.ErrLong},
		{wire.Limits{Bytes: 16, Deep: math.MinInt, Many: math.MinInt, Each: math.MinInt}, api.ErrDeep},
		{endless, api.OK},
	} {
		b, e := wire.Write(v, c.l)
		if e != c.want || (e == api.OK) != (len(b) == 16) || e != api.OK && len(b) > 0 {
			t.Errorf("Write within %v: %v and error %d, not error %d", c.l, b, e, c.want)
		}
	}
	if b, e := wire.Write(piece(), wire.Limits{Bytes: 2, Deep: 1, Many: 1, Each: -5}); e != api.OK || !bytes.Equal(b, []byte{2, 0}) {
		t.Errorf("Write of no bytes, where none may be: %v and error %d", b, e)
	}
}

// P3.2
func TestWriteAtTheWidestLimits(t *testing.T) {
	for _, c := range []struct {
		v    api.Node
		want api.Errno
	}{
		{nested(16), api.OK}, {nested(17), api.ErrDeep}, {nested(1 << 16), api.ErrDeep},
		{list(make([]api.Node, 1<<14-1)...), api.OK}, {list(make([]api.Node, 1<<14)...), api.ErrMany},
		{piece(make([]byte, 1<<16-4)...), api.OK}, {piece(make([]byte, 1<<16-3)...), api.ErrLong}, {piece(make([]byte, 1<<16+1)...), api.ErrLong},
	} {
		if len(c.v.List) > 1 {
			for i := range c.v.List {
				c.v.List[i] = num(0)
			}
		}
		if b, e := wire.Write(c.v, wire.Whole()); e != c.want || (e == api.OK) != (len(b) > 0) {
			t.Errorf("Write: %d bytes and error %d, not error %d", len(b), e, c.want)
		}
	}
}

// P3.2: what is not built right is told ahead of all else; then comes what begins first.
func TestWriteTellsTheFirstError(t *testing.T) {
	for _, v := range crooked() {
		for _, w := range []api.Node{v, list(v), list(piece(1, 2, 3), list(list(list())), v)} {
			for _, l := range []wire.Limits{wire.Whole(), {}, {Bytes: 5, Deep: 2, Many: 2, Each: 1}} {
				if b, e := wire.Write(w, l); e != api.ErrKind || len(b) > 0 {
					t.Errorf("Write(%v) within %v: %v and error %d", w, l, b, e)
				}
			}
		}
	}
	l := wire.Limits{Bytes: 1, Deep: 2, Many: 3, Each: 1}
	for _, c := range []struct {
		v    api.Node
		want api.Errno
	}{
		{num(0), api.ErrLong},
		{list(piece(1, 2), list(list())), api.ErrLong}, {list(list(list()), piece(1, 2)), api.ErrDeep},
		{list(num(1), num(2), piece(1, 2)), api.ErrMany}, {list(num(1), piece(1, 2), num(2)), api.ErrLong},
		{list(num(1), list(num(2))), api.ErrDeep}, {list(list(num(1)), num(1), num(1)), api.ErrDeep},
		{list(num(1), num(2), list(num(3))), api.ErrMany}, {list(num(1), list(piece(1, 2))), api.ErrDeep},
		{list(piece(1), piece(1), piece(1)), api.ErrMany},
	} {
		if b, e := wire.Write(c.v, l); e != c.want || len(b) > 0 {
			t.Errorf("Write(%v): %v and error %d, not %d", c.v, b, e, c.want)
		}
	}
	// Many and Deep are both full at one value; then Many and Each.
	if _, e := wire.Write(list(num(1), list(list())), wire.Limits{Bytes: 99, Deep: 2, Many: 3, Each: 9}); e != api.ErrDeep {
		t.Errorf("too deep and one too many: error %d", e)
	}
	if _, e := wire.Write(list(num(1), piece(1, 2)), wire.Limits{Bytes: 99, Deep: 2, Many: 2, Each: 1}); e != api.ErrMany {
		t.Errorf("one too many and too long: error %d", e)
	}
}

// item is a value of a greater one: how deep it is, and how many bytes it has, if it is a VBytes.
type item struct{ deep, each int }

// items are all values of one, in the order in which they begin.
func items(v api.Node, deep int) []item {
	l := []item{{deep, len(v.Bytes)}}
	for _, x := range v.List {
		l = append(l, items(x, deep+1)...)
	}
	return l
}

// spelt is a value's bytes, whatever the limits.
func spelt(v api.Node) []byte {
	b := []byte{byte(v.Kind)}
	switch v.Kind {
	case api.VNum:
		return append(b, wire.Count(v.Num)...)
	case api.VBytes:
		return append(append(b, wire.Count(uint64(len(v.Bytes)))...), v.Bytes...)
	}
	b = append(b, wire.Count(uint64(len(v.List)))...)
	for _, x := range v.List {
		b = append(b, spelt(x)...)
	}
	return b
}

// wantedError is what Write's promise says of a value that is built right.
func wantedError(v api.Node, l wire.Limits) api.Errno {
	for i, x := range items(v, 1) {
		switch {
		case x.deep > max(l.Deep, 0):
			return api.ErrDeep
		case i >= max(l.Many, 0):
			return api.ErrMany
		case x.each > max(l.Each, 0):
			return api.ErrLong
		}
	}
	if len(spelt(v)) > max(l.Bytes, 0) {
		return api.ErrLong
	}
	return api.OK
}

// tight are limits about those that a value needs.
func tight(r *rand.Rand, v api.Node) wire.Limits {
	l := wire.Limits{Bytes: len(spelt(v))}
	for _, x := range items(v, 1) {
		l.Deep, l.Each, l.Many = max(l.Deep, x.deep), max(l.Each, x.each), l.Many+1
	}
	for _, p := range []*int{&l.Bytes, &l.Deep, &l.Many, &l.Each} {
		if r.Intn(3) == 0 {
			*p += r.Intn(4) - 2
		}
	}
	return l
}

// P3.2
func TestWriteByChance(t *testing.T) {
	r := rand.New(rand.NewSource(2))
	seen := map[api.Errno]int{}
	for range 20 {
		for _, v := range some() {
			l := tight(r, v)
			want := wantedError(v, l)
			b, e := wire.Write(v, l)
			if e != want || e == api.OK && !bytes.Equal(b, spelt(v)) || e != api.OK && len(b) > 0 {
				t.Fatalf("Write(%v) within %v: %v and error %d, not error %d", v, l, b, e, want)
			}
			seen[e]++
		}
	}
	for _, e := range []api.Errno{api.OK, api.ErrDeep, api.ErrMany, api.ErrLong} {
		if seen[e] < 50 {
			t.Errorf("error %d came %d times only", e, seen[e])
		}
	}
}
