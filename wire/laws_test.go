package wire_test

import (
	"bytes"
	"math"
	"math/rand"
	"testing"

	"imprimatur/api"
	"imprimatur/wire"
)

// P3.6
func TestWhatIsWrittenIsReadAsTheSame(t *testing.T) {
	r := rand.New(rand.NewSource(5))
	written := 0
	for range 10 {
		for _, v := range some() {
			l := tight(r, v)
			b, e := wire.Write(v, l)
			w, at, d := wire.Read(spelt(v), l)
			if (e == api.OK) != (d == api.OK) {
				t.Fatalf("%v within %v: written with error %d, read with %d", v, l, e, d)
			}
			if e != api.OK {
				continue
			}
			written++
			if w, at, d = wire.Read(b, l); d != api.OK || at != 0 || !wire.Same(v, w) || !alike(v, w) || !wire.Right(w) {
				t.Fatalf("%v is read as %v, %d, error %d", v, w, at, d)
			}
		}
	}
	if written < 1000 {
		t.Errorf("only %d values were written", written)
	}
}

// P3.6: each value is written in one way.
func TestWhatIsReadIsWrittenAsTheSame(t *testing.T) {
	r := rand.New(rand.NewSource(6))
	read := 0
	for range 200000 {
		b := make([]byte, 1+r.Intn(8))
		for i := range b {
			b[i] = []byte{0, 1, 2, 3, 1, 2, 3, 191, 192, 193, 255}[r.Intn(11)]
		}
		v, _, e := wire.Read(b, wire.Whole())
		if e != api.OK {
			continue
		}
		read++
		if c, e := wire.Write(v, wire.Whole()); e != api.OK || !bytes.Equal(b, c) {
			t.Fatalf("%v is read as %v, and that written as %v, error %d", b, v, c, e)
		}
	}
	if read < 1000 {
		t.Errorf("only %d values were read", read)
	}
}

// P3.7
func TestCutOffBytesAreNotRead(t *testing.T) {
	for _, v := range some() {
		b := spelt(v)
		for n := range b {
			if w, at, e := wire.Read(b[:n], endless); e != api.ErrShort || !isZero(w) || at > n {
				t.Fatalf("%v cut off: %v, %d and error %d", b[:n], w, at, e)
			}
		}
	}
}

// P3.8
func TestGreaterLimitsChangeNothing(t *testing.T) {
	r := rand.New(rand.NewSource(7))
	for range 10 {
		for _, v := range some() {
			l := tight(r, v)
			b, e := wire.Write(v, l)
			if e != api.OK {
				continue
			}
			more := wire.Limits{Bytes: l.Bytes + r.Intn(3), Deep: l.Deep + r.Intn(3), Many: l.Many + r.Intn(3), Each: l.Each + r.Intn(3)}
			for _, m := range []wire.Limits{more, endless} {
				if c, e := wire.Write(v, m); e != api.OK || !bytes.Equal(b, c) {
					t.Fatalf("%v is written within %v, but not within %v", v, l, m)
				}
				if w, at, e := wire.Read(b, m); e != api.OK || at != 0 || !alike(v, w) {
					t.Fatalf("%v is read within %v, but not within %v", b, l, m)
				}
			}
		}
	}
}

// P3.9
func TestWhatIsReadStaysWithinTheLimits(t *testing.T) {
	r := rand.New(rand.NewSource(8))
	for range 10 {
		for _, v := range some() {
			l := tight(r, v)
			b := spelt(v)
			w, _, e := wire.Read(b, l)
			if e != api.OK {
				continue
			}
			l = wire.Limits{Bytes: max(l.Bytes, 0), Deep: max(l.Deep, 0), Many: max(l.Many, 0), Each: max(l.Each, 0)}
			all := items(w, 1)
			if len(all) > l.Many || len(b) > l.Bytes {
				t.Fatalf("%v is read within %v", b, l)
			}
			for _, x := range all {
				if x.deep > l.Deep || x.each > l.Each {
					t.Fatalf("%v is read within %v", b, l)
				}
			}
		}
	}
}

// Rule 3
func TestBytesAndValuesAreNewMemory(t *testing.T) {
	v := list(piece(1, 2), list(piece(3), num(4)), list(num(5)))
	b, _ := wire.Write(v, wire.Whole())
	given := bytes.Clone(b)
	w, _, _ := wire.Read(b, wire.Whole())
	clear(b)
	if !alike(v, w) {
		t.Error("Read keeps what it was given")
	}
	if c, _ := wire.Write(v, wire.Whole()); !bytes.Equal(c, given) {
		t.Error("Write hands out memory twice")
	}
	c := bytes.Clone(given)
	w, _, _ = wire.Read(c, wire.Whole())
	clear(w.List[0].Bytes)
	_ = append(w.List[0].Bytes, 9, 9, 9)
	_ = append(w.List[1].List, num(9), num(9))
	w.List[1].List[0].Bytes[0] = 9
	if !bytes.Equal(c, given) || !alike(w, list(piece(0, 0), list(piece(9), num(4)), list(num(5)))) {
		t.Error("what Read answers shares memory")
	}
	if !alike(v, list(piece(1, 2), list(piece(3), num(4)), list(num(5)))) {
		t.Error("Write changes what it was given")
	}
}

// P1: as many parts in one another as there may be, limits of all kinds, bytes of chance.
func TestEveryCallEnds(t *testing.T) {
	const deep = 1 << 16
	v := nested(deep)
	b := append(bytes.Repeat([]byte{3, 1}, deep-1), 3, 0)
	if c, e := wire.Write(v, endless); e != api.OK || !bytes.Equal(b, c) {
		t.Errorf("Write of values so deep: error %d", e)
	}
	if w, at, e := wire.Read(b, endless); e != api.OK || at != 0 || !wire.Same(v, w) || !wire.Right(w) {
		t.Errorf("Read of values so deep: %d and error %d", at, e)
	}
	if !wire.Same(wire.List(v), wire.List(v)) || wire.Same(v, v.List[0]) {
		t.Error("values so deep are not told apart")
	}
	f := wire.Open(v)
	if l := f.List(1, 1); len(l) != 1 || !wire.Same(l[0], v.List[0].List[0]) || !f.Done() {
		t.Error("values so deep are not read")
	}
	r := rand.New(rand.NewSource(9))
	some := []int{math.MinInt, -1, 0, 1, 2, 3, 10, 1 << 16, math.MaxInt}
	of := func() int { return some[r.Intn(len(some))] }
	for range 20000 {
		b := make([]byte, r.Intn(30))
		for i := range b {
			b[i] = byte(r.Intn(256)) >> (r.Intn(2) * 6)
		}
		l := wire.Limits{Bytes: of(), Deep: of(), Many: of(), Each: of()}
		asPromised(t, b, l)
		wire.ReadCount(b, of())
		v := api.Node{Kind: of(), Num: uint64(r.Intn(2)), Bytes: b[:r.Intn(len(b)+1)], List: make([]api.Node, r.Intn(3))}
		if _, e := wire.Write(v, l); e == api.OK != wire.Right(v) && e != api.ErrDeep && e != api.ErrMany && e != api.ErrLong {
			t.Fatalf("Write(%v) within %v: error %d", v, l, e)
		}
		wire.Same(v, list(v))
		f := wire.Open(list(v, v, v))
		f.Int(int64(of()), int64(of()))
		f.Bytes(of(), of())
		f.List(of(), of())
	}
}
