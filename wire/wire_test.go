package wire_test

import (
	"bytes"
	"math"
	"math/rand"
	"testing"

	"imprimatur/api"
	"imprimatur/wire"
)

// endless are limits that hinder nothing.
var endless = wire.Limits{Bytes: math.MaxInt, Deep: math.MaxInt, Many: math.MaxInt, Each: math.MaxInt}

var below = math.Copysign(0, -1)

func noScores() []float64 {
	return []float64{
		below, math.Inf(1), math.Inf(-1), math.NaN(),
		math.Float64frombits(0x7FF0000000000001), math.Float64frombits(0xFFFFFFFFFFFFFFFF),
	}
}

func num(n uint64) api.Node { return api.Node{Kind: api.VNum, Num: n} }

func piece(b ...byte) api.Node { return api.Node{Kind: api.VBytes, Bytes: b} }

func list(l ...api.Node) api.Node { return api.Node{Kind: api.VList, List: l} }

// nested is a list in lists, so deep in all.
func nested(deep int) api.Node {
	v := list()
	for range deep - 1 {
		v = list(v)
	}
	return v
}

// isZero tells whether a value is the zero one, as beside an error.
func isZero(v api.Node) bool {
	return v.Kind == 0 && v.Num == 0 && len(v.Bytes) == 0 && len(v.List) == 0
}

// alike tells whether two values are the same; it goes by itself, without what it tests.
func alike(a, b api.Node) bool {
	if a.Kind != b.Kind || a.Num != b.Num || string(a.Bytes) != string(b.Bytes) || len(a.List) != len(b.List) {
		return false
	}
	for i := range a.List {
		if !alike(a.List[i], b.List[i]) {
			return false
		}
	}
	return true
}

// chance is a value of chance that is built right, at most so deep.
func chance(r *rand.Rand, deep int) api.Node {
	switch k := r.Intn(5); {
	case k == 0:
		return num(r.Uint64() >> r.Intn(64))
	case k == 1 || deep == 1:
		b := make([]byte, r.Intn(9)*r.Intn(40))
		r.Read(b)
		return piece(b...)
	}
	v := list()
	for range r.Intn(5) {
		v.List = append(v.List, chance(r, deep-1))
	}
	return v
}

// some are values that are built right: small ones, ones about the lengths at which counts grow, ones of chance.
func some() []api.Node {
	l := []api.Node{
		num(0), num(1), num(191), num(192), num(math.MaxUint64), piece(), piece(0), piece(make([]byte, 191)...), piece(make([]byte, 192)...),
		piece(make([]byte, 255)...), piece(make([]byte, 256)...), list(), list(list()), list(num(5), piece()), nested(7),
		list(make191()...), list(append(make191(), num(9))...),
	}
	r := rand.New(rand.NewSource(3))
	for range 400 {
		l = append(l, chance(r, 6))
	}
	return l
}

// make191 are as many values as a count of one byte tells at most.
func make191() []api.Node {
	l := make([]api.Node, 191)
	for i := range l {
		l[i] = num(uint64(i))
	}
	return l
}

// crooked are values that are not built right.
func crooked() []api.Node {
	return []api.Node{
		{}, {Kind: 4}, {Kind: -1}, {Kind: math.MinInt}, {Kind: math.MaxInt}, {Kind: 257}, {Kind: 258}, {Kind: 259},
		{Num: 1}, {Bytes: []byte{1}}, {List: []api.Node{num(1)}},
		{Kind: api.VNum, Bytes: []byte{0}}, {Kind: api.VNum, Num: 3, List: []api.Node{num(1)}},
		{Kind: api.VBytes, Num: 1}, {Kind: api.VBytes, Bytes: []byte{1}, List: []api.Node{num(1)}},
		{Kind: api.VList, Num: 1}, {Kind: api.VList, Bytes: []byte{0}}, {Kind: api.VList, List: []api.Node{num(1)}, Num: 7},
	}
}

// P3.4
func TestMakers(t *testing.T) {
	for _, c := range []struct {
		name      string
		got, want api.Node
	}{
		{"Num(0)", wire.Num(0), num(0)},
		{"Num(max)", wire.Num(math.MaxUint64), num(math.MaxUint64)},
		{"Bytes(nil)", wire.Bytes(nil), piece()},
		{"Bytes", wire.Bytes([]byte{0, 255, 7}), piece(0, 255, 7)},
		{"Text of none", wire.Text(""), piece()},
		{"Text", wire.Text("a\x00é\xff"), piece('a', 0, 0xC3, 0xA9, 0xFF)},
		{"List of none", wire.List(), list()},
		{"List", wire.List(num(5), piece(), list(num(1), list(piece(9)))), list(num(5), piece(), list(num(1), list(piece(9))))},
		{"List of what is not built right", wire.List(api.Node{Kind: 9, Num: 1, Bytes: []byte{2}}), list(api.Node{Kind: 9, Num: 1, Bytes: []byte{2}})},
	} {
		if !alike(c.got, c.want) {
			t.Errorf("%s: %v, not %v", c.name, c.got, c.want)
		}
	}
}

// P3.4
func TestScore(t *testing.T) {
	for _, c := range []struct {
		x    float64
		want []byte
	}{
		{0, []byte{0, 0, 0, 0, 0, 0, 0, 0}},
		{1, []byte{0x3F, 0xF0, 0, 0, 0, 0, 0, 0}},
		{-2.5, []byte{0xC0, 0x04, 0, 0, 0, 0, 0, 0}},
		{math.SmallestNonzeroFloat64, []byte{0, 0, 0, 0, 0, 0, 0, 1}},
		{-math.MaxFloat64, []byte{0xFF, 0xEF, 0xFF, 0xFF, 0xFF, 0xFF, 0xFF, 0xFF}},
	} {
		if v, e := wire.Score(c.x); e != api.OK || !alike(v, piece(c.want...)) {
			t.Errorf("Score(%v): %v and error %d, not %v", c.x, v, e, c.want)
		}
	}
	for _, x := range noScores() {
		if v, e := wire.Score(x); e != api.ErrScore || !isZero(v) {
			t.Errorf("Score(%v): %v and error %d", x, v, e)
		}
	}
}

// P3.2
func TestRight(t *testing.T) {
	for _, v := range some() {
		if !wire.Right(v) {
			t.Errorf("%v is built right", v)
		}
	}
	empty := []api.Node{}
	for _, v := range []api.Node{{Kind: 1, Bytes: []byte{}, List: empty}, {Kind: 2, List: empty}, {Kind: 3, Bytes: []byte{}, List: empty}} {
		if !wire.Right(v) {
			t.Errorf("lists without elements are as nil ones: %v is built right", v)
		}
	}
	for _, v := range crooked() {
		for _, w := range []api.Node{v, list(v), list(num(1), list(piece(1), v), num(2)), list(v, num(1))} {
			if wire.Right(w) {
				t.Errorf("%v is not built right", w)
			}
		}
	}
}

// P3.4
func TestSame(t *testing.T) {
	l := []api.Node{
		{}, {Num: 1}, {Kind: 7}, {Kind: 7, Num: 1}, num(0), num(1), num(1 << 63), piece(), piece(0), piece(0, 0), piece(0, 1), piece(1, 0),
		list(), list(num(0)), list(num(1)), list(num(1), num(1)), list(num(1), num(2)), list(num(2), num(1)), list(piece(1)), list(list()), list(list(), list()),
		list(list(list())), list(list(num(1))), list(num(1), list()), list(list(), num(1)),
		{Kind: 1, Bytes: []byte{1}}, {Kind: 2, Num: 1}, {Kind: 3, Num: 1}, {Kind: 1, List: []api.Node{{}}}, {Kind: 3, List: []api.Node{{}}},
	}
	for i, a := range l {
		for j, b := range l {
			if got := wire.Same(a, b); got != (i == j) {
				t.Errorf("Same(%v, %v): %v", a, b, got)
			}
		}
	}
	a := list(api.Node{Kind: 2}, api.Node{Kind: 3}, num(1))
	b := list(api.Node{Kind: 2, Bytes: []byte{}, List: []api.Node{}}, api.Node{Kind: 3, Bytes: []byte{}, List: []api.Node{}}, num(1))
	if !wire.Same(a, b) || !wire.Same(b, a) {
		t.Error("lists without elements are the same as nil ones")
	}
}

// Rule 3
func TestMadeValuesAreNewMemory(t *testing.T) {
	b := []byte{1, 2, 3}
	v := wire.Bytes(b)
	b[0] = 9
	if !alike(v, piece(1, 2, 3)) {
		t.Error("Bytes keeps what it was given")
	}
	shared := piece(4, 5)
	in := []api.Node{shared, list(shared, list(num(1))), shared}
	v = wire.List(in...)
	want := list(piece(4, 5), list(piece(4, 5), list(num(1))), piece(4, 5))
	v.List[0].Bytes[0] = 7
	v.List[1].List[1].List[0].Num = 8
	if !alike(list(in...), want) {
		t.Error("what List answers changes what it was given")
	}
	if v.List[2].Bytes[0] != 4 || v.List[1].List[0].Bytes[0] != 4 {
		t.Error("parts of what List answers share memory")
	}
	v = wire.List(in...)
	in[1].List[1].List[0].Num = 8
	shared.Bytes[1] = 0
	in[2] = num(0)
	if !alike(v, want) {
		t.Error("List keeps what it was given")
	}
	x, _ := wire.Score(1)
	clear(x.Bytes)
	if y, _ := wire.Score(1); bytes.Equal(x.Bytes, y.Bytes) {
		t.Error("Score hands out memory twice")
	}
}
