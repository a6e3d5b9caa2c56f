package wire_test

import (
	"bytes"
	"math"
	"testing"

	"imprimatur/api"
	"imprimatur/wire"
)

// halfScore is the VBytes of the score -0.5.
func halfScore() api.Node { return piece(0xBF, 0xE0, 0, 0, 0, 0, 0, 0) }

// P3.5
func TestFields(t *testing.T) {
	f := wire.Open(list(num(math.MaxUint64), num(7), piece(1, 2), halfScore(), list(num(1), list(piece(3))), piece(), list(), num(0)))
	if n := f.Num(); n != math.MaxUint64 {
		t.Error("Num", n)
	}
	if n := f.Int(-3, 7); n != 7 {
		t.Error("Int", n)
	}
	if b := f.Bytes(2, 2); !bytes.Equal(b, []byte{1, 2}) {
		t.Error("Bytes", b)
	}
	if x := f.Score(); x != -0.5 {
		t.Error("Score", x)
	}
	if l := f.List(1, 2); !alike(list(l...), list(num(1), list(piece(3)))) {
		t.Error("List", l)
	}
	if b := f.Bytes(0, 0); len(b) != 0 {
		t.Error("Bytes", b)
	}
	if l := f.List(0, 5); len(l) != 0 {
		t.Error("List", l)
	}
	if f.Done() {
		t.Error("done, though a value is left")
	}
	if n := f.Int(0, 0); n != 0 || !f.Done() || !f.Done() {
		t.Error("Int", n, f.Done())
	}
	if n := f.Num(); n != 0 || f.Done() {
		t.Error("behind the last value", n, f.Done())
	}
}

// P3.5
func TestFieldsWithinBounds(t *testing.T) {
	for _, c := range []struct {
		n           uint64
		least, most int64
		ok          bool
	}{
		{5, 5, 5, true}, {5, 4, 6, true}, {5, 6, 9, false}, {5, 0, 4, false}, {5, 6, 4, false}, {5, math.MinInt64, math.MaxInt64, true}, {5, -9, -5, false},
		{0, 0, 0, true}, {0, -1, 0, true}, {0, 1, 2, false}, {0, -2, -1, false},
		{math.MaxInt64, 0, math.MaxInt64, true}, {math.MaxInt64, math.MaxInt64, math.MaxInt64, true}, {math.MaxInt64, 0, math.MaxInt64 - 1, false},
		{1 << 63, 0, math.MaxInt64, false}, {1 << 63, math.MinInt64, math.MaxInt64, false}, {1 << 63, math.MinInt64, math.MinInt64, false},
		{math.MaxUint64, math.MinInt64, math.MaxInt64, false}, {math.MaxUint64, -1, -1, false},
	} {
		f := wire.Open(list(num(c.n)))
		want := int64(0)
		if c.ok {
			want = int64(c.n)
		}
		if got := f.Int(c.least, c.most); got != want || f.Done() != c.ok {
			t.Errorf("Int(%d, %d) of %d: %d, and done: %v", c.least, c.most, c.n, got, f.Done())
		}
	}
	for _, c := range []struct {
		n, least, most int
		ok             bool
	}{
		{3, 3, 3, true}, {3, 2, 4, true}, {3, 4, 9, false}, {3, 0, 2, false}, {3, 4, 2, false}, {3, math.MinInt, math.MaxInt, true}, {3, -9, -1, false},
		{0, 0, 0, true}, {0, -5, 5, true}, {0, 1, 5, false}, {0, -5, -1, false},
	} {
		f := wire.Open(list(piece(bytes.Repeat([]byte{8}, c.n)...)))
		if got := f.Bytes(c.least, c.most); len(got) > 0 && (len(got) != c.n || got[0] != 8) || f.Done() != c.ok || !c.ok && len(got) > 0 || c.ok && len(got) != c.n {
			t.Errorf("Bytes(%d, %d) of %d: %v, and done: %v", c.least, c.most, c.n, got, f.Done())
		}
		f = wire.Open(list(list(make191()[:c.n]...)))
		if got := f.List(c.least, c.most); f.Done() != c.ok || !c.ok && len(got) > 0 || c.ok && !alike(list(got...), list(make191()[:c.n]...)) {
			t.Errorf("List(%d, %d) of %d: %v, and done: %v", c.least, c.most, c.n, got, f.Done())
		}
	}
}

// P3.5
func TestFieldsScore(t *testing.T) {
	for _, x := range []float64{0, 1, -1, -2.5, math.SmallestNonzeroFloat64, math.MaxFloat64, -math.MaxFloat64} {
		v, _ := wire.Score(x)
		f := wire.Open(list(v))
		if got := f.Score(); math.Float64bits(got) != math.Float64bits(x) || !f.Done() {
			t.Errorf("Score: %v, not %v", got, x)
		}
	}
	for _, b := range [][]byte{
		nil, make([]byte, 7), make([]byte, 9), make([]byte, 16),
		{0x80, 0, 0, 0, 0, 0, 0, 0}, {0x7F, 0xF0, 0, 0, 0, 0, 0, 0}, {0xFF, 0xF0, 0, 0, 0, 0, 0, 0}, {0x7F, 0xF0, 0, 0, 0, 0, 0, 1}, {0xFF, 0xF8, 0, 0, 0, 0, 0, 0},
	} {
		f := wire.Open(list(piece(b...)))
		if got := f.Score(); math.Float64bits(got) != 0 || f.Done() {
			t.Errorf("Score of %v: %v, and done: %v", b, got, f.Done())
		}
	}
}

// asked are all that a reader is asked for, with bounds that hinder nothing: each tells whether the answer is the zero value.
func asked(f *wire.Fields) map[string]func() bool {
	return map[string]func() bool{
		"Num":   func() bool { return f.Num() == 0 },
		"Int":   func() bool { return f.Int(math.MinInt64, math.MaxInt64) == 0 },
		"Bytes": func() bool { return len(f.Bytes(math.MinInt, math.MaxInt)) == 0 },
		"Score": func() bool { return math.Float64bits(f.Score()) == 0 },
		"List":  func() bool { return len(f.List(math.MinInt, math.MaxInt)) == 0 },
	}
}

// isBroken tells whether a reader answers nothing, whatever it is asked for.
func isBroken(f *wire.Fields) bool {
	for name := range asked(f) {
		g := f
		if f != nil {
			// Another one as this one is: asking for what is not there would break it.
			h := *f
			g = &h
		}
		if g.Done() || !asked(g)[name]() || g.Done() {
			return false
		}
	}
	return true
}

// P3.5: another kind breaks the reader, and so does the end; what is left is not read any more.
func TestFieldsBreak(t *testing.T) {
	rest := []api.Node{num(5), piece(1), halfScore(), list(num(1))}
	fits := map[string][]api.Node{
		"Num": {num(9)}, "Int": {num(9)}, "Bytes": {piece(9), halfScore()}, "Score": {halfScore()}, "List": {list(num(9))},
	}
	for _, v := range []api.Node{num(9), piece(9), halfScore(), list(num(9))} {
		for name := range fits {
			right := false
			for _, w := range fits[name] {
				right = right || alike(v, w)
			}
			f := wire.Open(list(append([]api.Node{v}, rest...)...))
			if zero := asked(f)[name](); zero == right {
				t.Errorf("%s of %v is zero: %v", name, v, zero)
			}
			if isBroken(f) == right {
				t.Errorf("%s of %v breaks the reader: %v", name, v, !right)
			}
			f = wire.Open(list())
			if !f.Done() || !asked(f)[name]() || !isBroken(f) {
				t.Errorf("%s of a list without values does not break the reader", name)
			}
		}
	}
	for _, ask := range []func(f *wire.Fields){
		func(f *wire.Fields) { f.Int(6, 9) }, func(f *wire.Fields) { f.Num(); f.Bytes(2, 2) }, func(f *wire.Fields) { f.Num(); f.Bytes(1, 1); f.Bytes(0, 7) },
		func(f *wire.Fields) { f.Num(); f.Score() }, func(f *wire.Fields) { f.Num(); f.Bytes(1, 1); f.Score(); f.List(0, 0) },
	} {
		f := wire.Open(list(append(rest, rest...)...))
		ask(f)
		if !isBroken(f) {
			t.Error("what is out of the bounds does not break the reader")
		}
	}
}

// P3.5
func TestOpenOfNoList(t *testing.T) {
	for _, v := range []api.Node{{}, num(0), num(5), piece(), piece(1), {Kind: 4, List: []api.Node{num(1)}}, {Kind: api.VNum, List: []api.Node{num(1)}}, {List: []api.Node{num(1)}}} {
		f := wire.Open(v)
		if f == nil || !isBroken(f) {
			t.Errorf("Open(%v) is not broken", v)
		}
	}
	if !isBroken(nil) {
		t.Error("a nil reader is not broken")
	}
	if !isBroken(&wire.Fields{}) {
		t.Error("a reader that Open did not make is not broken")
	}
	if !wire.Open(list()).Done() {
		t.Error("a list without values leaves something")
	}
}

// Rule 3
func TestFieldsShareNothing(t *testing.T) {
	shared := piece(1, 2)
	v := list(shared, list(shared, list(num(3))), shared)
	f := wire.Open(v)
	shared.Bytes[0] = 9
	v.List[1].List[1].List[0].Num = 9
	v.List[2] = num(9)
	again := *f
	for range 2 {
		first := f.Bytes(0, 9)
		l := f.List(0, 9)
		last := f.Bytes(0, 9)
		if !alike(list(piece(first...), list(l...), piece(last...)), list(piece(1, 2), list(piece(1, 2), list(num(3))), piece(1, 2))) || !f.Done() {
			t.Errorf("a reader keeps what it was given, or hands out memory twice: %v %v %v", first, l, last)
		}
		clear(first)
		clear(l[0].Bytes)
		l[1].List[0].Num = 0
		clear(last)
		*f = again
	}
	if !alike(v, list(piece(9, 2), list(piece(9, 2), list(num(9))), num(9))) {
		t.Errorf("a reader changes what it was given: %v", v)
	}
}
