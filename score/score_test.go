package score_test

import (
	"math"
	"math/big"
	"math/rand"
	"slices"
	"testing"

	"imprimatur/api"
	"imprimatur/score"
)

const answeredNaN = 0x7FF8000000000001

var below = math.Copysign(0, -1)

func from(bits uint64) float64 { return math.Float64frombits(bits) }

func bitsOf(x float64) uint64 { return math.Float64bits(x) }

// nans are NaNs of several bits: quiet and signalling ones, of either sign, with the least and the most bits.
func nans() []float64 {
	return []float64{
		math.NaN(), from(answeredNaN), from(0x7FF0000000000001), from(0x7FF8000000000000), from(0x7FFFFFFFFFFFFFFF),
		from(0xFFF0000000000001), from(0xFFF8000000000000), from(0xFFF8000000000001), from(0xFFFFFFFFFFFFFFFF),
	}
}

// rising are numbers that are not NaN, each above the one ahead of it.
func rising() []float64 {
	return []float64{
		math.Inf(-1), -math.MaxFloat64, from(bitsOf(-math.MaxFloat64) - 1), -1e308, -2, from(bitsOf(-1.0) + 1), -1, -0.5,
		from(0x8010000000000001), from(0x8010000000000000), from(0x800FFFFFFFFFFFFF), -2 * math.SmallestNonzeroFloat64, -math.SmallestNonzeroFloat64,
		below, 0,
		math.SmallestNonzeroFloat64, 2 * math.SmallestNonzeroFloat64, from(0x000FFFFFFFFFFFFF), from(0x0010000000000000), from(0x0010000000000001),
		0.5, 1, from(bitsOf(1.0) + 1), 2, 1e308, from(bitsOf(math.MaxFloat64) - 1), math.MaxFloat64, math.Inf(1),
	}
}

// some are the numbers of rising, NaNs, and others of any bits.
func some() []float64 {
	r := rand.New(rand.NewSource(1))
	l := append(rising(), nans()...)
	for range 300 {
		l = append(l, from(r.Uint64()))
	}
	return l
}

// scores are those of some that are neither NaN nor infinite nor the zero below.
func scores() []float64 {
	return slices.DeleteFunc(some(), func(x float64) bool { return !isScore(x) })
}

func noScores() []float64 {
	return append(nans(), math.Inf(1), math.Inf(-1), below)
}

func isScore(x float64) bool {
	return !math.IsNaN(x) && !math.IsInf(x, 0) && !(x == 0 && math.Signbit(x))
}

func same(a, b float64) bool { return bitsOf(a) == bitsOf(b) }

func sameAll(a, b []float64) bool { return slices.EqualFunc(a, b, same) }

// P1.1
func TestClass(t *testing.T) {
	for _, c := range []struct {
		bits uint64
		want int
	}{
		{0, 0}, {1 << 63, 1},
		{1, 2}, {1<<63 | 1, 2}, {0x000FFFFFFFFFFFFF, 2}, {0x800FFFFFFFFFFFFF, 2},
		{0x0010000000000000, 3}, {0x8010000000000000, 3}, {0x3FF0000000000000, 3}, {0x7FEFFFFFFFFFFFFF, 3}, {0xFFEFFFFFFFFFFFFF, 3},
		{0x7FF0000000000000, 4}, {0xFFF0000000000000, 4},
	} {
		if got := score.Class(from(c.bits)); got != c.want {
			t.Errorf("Class of the bits %x: %d, not %d", c.bits, got, c.want)
		}
	}
	for _, x := range nans() {
		if got := score.Class(x); got != 5 {
			t.Errorf("Class of the NaN %x: %d", bitsOf(x), got)
		}
	}
}

// P1.1
func TestCode(t *testing.T) {
	for _, c := range []struct {
		x    float64
		want uint64
	}{
		{0, 1 << 63}, {below, 1<<63 - 1}, {math.SmallestNonzeroFloat64, 1<<63 + 1}, {-math.SmallestNonzeroFloat64, 1<<63 - 2},
		{1, 0xBFF0000000000000}, {-1, 0x400FFFFFFFFFFFFF},
		{math.MaxFloat64, 0xFFEFFFFFFFFFFFFF}, {-math.MaxFloat64, 0x0010000000000000},
		{math.Inf(1), 0xFFF0000000000000}, {math.Inf(-1), 0x000FFFFFFFFFFFFF},
	} {
		if got := score.Code(c.x); got != c.want {
			t.Errorf("Code(%v): %x, not %x", c.x, got, c.want)
		}
	}
	for _, x := range nans() {
		if got := score.Code(x); got != math.MaxUint64 {
			t.Errorf("Code of the NaN %x: %x", bitsOf(x), got)
		}
	}
}

// P1.1
func TestBack(t *testing.T) {
	for _, c := range []struct {
		code, bits uint64
	}{
		{1 << 63, 0}, {1<<63 - 1, 1 << 63}, {1<<63 + 1, 1}, {1<<63 - 2, 1<<63 | 1}, {0xBFF0000000000000, 0x3FF0000000000000},
		{0x000FFFFFFFFFFFFF, 0xFFF0000000000000}, {0xFFF0000000000000, 0x7FF0000000000000}, {math.MaxUint64, answeredNaN},
	} {
		if x, e := score.Back(c.code); e != api.OK || bitsOf(x) != c.bits {
			t.Errorf("Back(%x): the bits %x and error %d, not %x", c.code, bitsOf(x), e, c.bits)
		}
	}
	for _, c := range []uint64{0, 1, 0x0007FFFFFFFFFFFF, 0x000FFFFFFFFFFFFE, 0xFFF0000000000001, 0xFFF8000000000001, math.MaxUint64 - 1} {
		if x, e := score.Back(c); e != api.ErrArg || bitsOf(x) != 0 {
			t.Errorf("Back(%x): %v and error %d", c, x, e)
		}
	}
}

// P1.1
func TestCompare(t *testing.T) {
	l := append(rising(), math.NaN())
	for i, a := range l {
		for j, b := range l {
			want := 0
			if i > j {
				want = 1
			} else if i < j {
				want = -1
			}
			if got := score.Compare(a, b); got != want {
				t.Errorf("Compare(%v, %v): %d, not %d", a, b, got, want)
			}
		}
	}
	for _, a := range nans() {
		for _, b := range nans() {
			if got := score.Compare(a, b); got != 0 {
				t.Errorf("Compare of the NaNs %x and %x: %d", bitsOf(a), bitsOf(b), got)
			}
		}
	}
}

// P1.2
func TestValid(t *testing.T) {
	for _, x := range some() {
		if got := score.Valid(x); got != isScore(x) {
			t.Errorf("Valid of the bits %x: %v", bitsOf(x), got)
		}
	}
	for _, x := range noScores() {
		if score.Valid(x) {
			t.Errorf("Valid of the bits %x", bitsOf(x))
		}
	}
}

// P1.2
func TestBytes(t *testing.T) {
	for _, c := range []struct {
		x    float64
		want []byte
	}{
		{0, []byte{0, 0, 0, 0, 0, 0, 0, 0}},
		{1, []byte{0x3F, 0xF0, 0, 0, 0, 0, 0, 0}},
		{-8, []byte{0xC0, 0x20, 0, 0, 0, 0, 0, 0}},
		{from(0x0102030405060708), []byte{1, 2, 3, 4, 5, 6, 7, 8}},
		{math.SmallestNonzeroFloat64, []byte{0, 0, 0, 0, 0, 0, 0, 1}},
		{math.MaxFloat64, []byte{0x7F, 0xEF, 255, 255, 255, 255, 255, 255}},
	} {
		if b, e := score.Bytes(c.x); e != api.OK || !slices.Equal(b, c.want) {
			t.Errorf("Bytes(%v): %v and error %d, not %v", c.x, b, e, c.want)
		}
	}
	for _, x := range noScores() {
		if b, e := score.Bytes(x); e != api.ErrScore || len(b) != 0 {
			t.Errorf("Bytes of the bits %x: %v and error %d", bitsOf(x), b, e)
		}
	}
}

// P1.2
func TestRead(t *testing.T) {
	if x, e := score.Read([]byte{0xC0, 0x20, 0, 0, 0, 0, 0, 0}); e != api.OK || x != -8 {
		t.Errorf("Read of the bytes of -8: %v and error %d", x, e)
	}
	for _, n := range []int{0, 1, 7, 9, 16, 1000} {
		if x, e := score.Read(make([]byte, n)); e != api.ErrArg || bitsOf(x) != 0 {
			t.Errorf("Read of %d bytes: %v and error %d", n, x, e)
		}
	}
	if _, e := score.Read(slices.Repeat([]byte{255}, 9)); e != api.ErrArg {
		t.Errorf("Read of 9 bytes that would be no score's: error %d", e)
	}
	for _, x := range noScores() {
		b := []byte{}
		for i := range 8 {
			b = append(b, byte(bitsOf(x)>>(56-8*i)))
		}
		if y, e := score.Read(b); e != api.ErrScore || bitsOf(y) != 0 {
			t.Errorf("Read of the bytes %x: %v and error %d", b, y, e)
		}
	}
}

// P1.3
func TestNext(t *testing.T) {
	for _, c := range [][2]float64{
		{0, math.SmallestNonzeroFloat64}, {below, 0}, {-math.SmallestNonzeroFloat64, below},
		{from(0x000FFFFFFFFFFFFF), from(0x0010000000000000)}, {from(0x8010000000000000), from(0x800FFFFFFFFFFFFF)},
		{1, math.Nextafter(1, 2)}, {-1, math.Nextafter(-1, 2)},
		{math.MaxFloat64, math.Inf(1)}, {math.Inf(-1), -math.MaxFloat64}, {math.Inf(1), from(answeredNaN)},
	} {
		if got := score.Next(c[0]); !same(got, c[1]) {
			t.Errorf("Next(%v): %v, not %v", c[0], got, c[1])
		}
	}
	for _, x := range nans() {
		if got := score.Next(x); bitsOf(got) != answeredNaN {
			t.Errorf("Next of the NaN %x: %x", bitsOf(x), bitsOf(got))
		}
	}
}

// P1.11
func TestPrev(t *testing.T) {
	for _, c := range [][2]float64{
		{math.SmallestNonzeroFloat64, 0}, {0, below}, {below, -math.SmallestNonzeroFloat64},
		{from(0x0010000000000000), from(0x000FFFFFFFFFFFFF)}, {from(0x800FFFFFFFFFFFFF), from(0x8010000000000000)},
		{1, math.Nextafter(1, 0)}, {-1, math.Nextafter(-1, -2)},
		{math.Inf(1), math.MaxFloat64}, {-math.MaxFloat64, math.Inf(-1)}, {math.Inf(-1), math.Inf(-1)},
	} {
		if got := score.Prev(c[0]); !same(got, c[1]) {
			t.Errorf("Prev(%v): %v, not %v", c[0], got, c[1])
		}
	}
	for _, x := range nans() {
		if got := score.Prev(x); !math.IsInf(got, 1) {
			t.Errorf("Prev of the NaN %x: %v", bitsOf(x), got)
		}
	}
}

// P1.4
func TestTotal(t *testing.T) {
	tiny := math.SmallestNonzeroFloat64
	for _, c := range []struct {
		l    []float64
		want float64
	}{
		{nil, 0}, {[]float64{}, 0}, {[]float64{0}, 0}, {[]float64{-2.5}, -2.5}, {[]float64{1, 2, 3.5}, 6.5},
		{[]float64{1, -1}, 0}, {[]float64{-1, 1}, 0}, {[]float64{-tiny, tiny}, 0}, {[]float64{tiny, tiny}, 2 * tiny},
		{[]float64{1, 1e100, -1e100}, 0}, {[]float64{1e100, -1e100, 1}, 1}, // from the first one on
		{[]float64{1 << 53, 1}, 1 << 53}, {[]float64{1<<53 + 2, 1}, 1<<53 + 4}, // ties to even
		{[]float64{1 << 53, 1, 1}, 1 << 53}, {[]float64{1, 1, 1 << 53}, 1<<53 + 2}, // each sum is rounded
		{[]float64{0.1, 0.2, 0.3}, from(0x3FE3333333333334)},
		{[]float64{math.MaxFloat64, 1e291}, math.MaxFloat64}, {[]float64{1e308, -1e308, 1e308}, 1e308},
	} {
		if got, e := score.Total(c.l); e != api.OK || !same(got, c.want) {
			t.Errorf("Total(%v): %v and error %d, not %v", c.l, got, e, c.want)
		}
	}
}

// P1.4
func TestTotalIsNoScore(t *testing.T) {
	for _, l := range [][]float64{
		{1e308, 1e308}, {-1e308, -1e308}, {math.MaxFloat64, 1e292}, {1e308, 1e308, -1e308}, {1e308, 1e308, -1e308, -1e308, 1},
	} {
		if x, e := score.Total(l); e != api.ErrScore || bitsOf(x) != 0 {
			t.Errorf("Total(%v): %v and error %d", l, x, e)
		}
	}
	for _, n := range noScores() {
		for _, l := range [][]float64{{n}, {n, 1}, {1, n}, {1, n, 2}, {0, n}, {1e308, 1e308, n}, {n, n}} {
			if x, e := score.Total(l); e != api.ErrScore || bitsOf(x) != 0 {
				t.Errorf("Total(%v): %v and error %d", l, x, e)
			}
		}
	}
}

// P1.4
func TestMid(t *testing.T) {
	tiny := math.SmallestNonzeroFloat64
	for _, c := range [][3]float64{
		{0, 0, 0}, {1, 1, 1}, {1, 2, 1.5}, {2, 1, 1.5}, {-1, -2, -1.5}, {1, 4, 2}, {-1, 1, below},
		{0, tiny, 0}, {tiny, 0, 0}, {0, 2 * tiny, tiny}, {0, 3 * tiny, tiny},
		{-tiny, 0, below}, {-tiny, tiny, below}, {-2 * tiny, -tiny, -2 * tiny},
		{math.MaxFloat64, math.MaxFloat64, math.MaxFloat64}, {-math.MaxFloat64, math.MaxFloat64, below},
	} {
		if got, e := score.Mid(c[0], c[1]); e != api.OK || !same(got, c[2]) {
			t.Errorf("Mid(%v, %v): %v and error %d, not %v", c[0], c[1], got, e, c[2])
		}
	}
	for _, n := range noScores() {
		for _, p := range [][2]float64{{n, 1}, {1, n}, {n, n}} {
			if x, e := score.Mid(p[0], p[1]); e != api.ErrScore || bitsOf(x) != 0 {
				t.Errorf("Mid(%v, %v): %v and error %d", p[0], p[1], x, e)
			}
		}
	}
}

// P1.11
func TestSteps(t *testing.T) {
	tiny := math.SmallestNonzeroFloat64
	for _, c := range []struct {
		a, b float64
		n    int
		want []float64
	}{
		{1, 2, 1, []float64{1.5}}, {2, 1, 1, []float64{1.5}}, {1, 2, 3, []float64{1.25, 1.5, 1.75}}, {-1, -2, 3, []float64{-1.75, -1.5, -1.25}},
		{3, 3, 2, []float64{3, 3}}, {0, tiny, 3, []float64{0, 0, 0}}, {0, 5 * tiny, 3, []float64{tiny, 2 * tiny, 3 * tiny}},
		{-tiny, tiny, 2, []float64{below, 0}}, {tiny, -tiny, 2, []float64{below, 0}},
	} {
		if got, e := score.Steps(c.a, c.b, c.n); e != api.OK || !sameAll(got, c.want) {
			t.Errorf("Steps(%v, %v, %d): %v and error %d, not %v", c.a, c.b, c.n, got, e, c.want)
		}
	}
}

// wantedCode is c + (d - c) i / (n + 1), rounded down, reckoned without bounds.
func wantedCode(c, d uint64, i, n int) uint64 {
	x := new(big.Int).SetUint64(d - c)
	x.Mul(x, big.NewInt(int64(i)))
	x.Div(x, big.NewInt(int64(n+1)))
	return c + x.Uint64()
}

// P1.11
func TestStepsHaveTheirCodes(t *testing.T) {
	ends := [][2]float64{{-math.MaxFloat64, math.MaxFloat64}, {math.MaxFloat64, -math.MaxFloat64}, {-1e308, 0}, {0, 1e-320}, {-3, 0.1}, {7, 7}}
	for _, p := range ends {
		c, d := score.Code(p[0]), score.Code(p[1])
		c, d = min(c, d), max(c, d)
		for _, n := range []int{1, 2, 3, 6, 7, 499, 999, 1000} {
			l, e := score.Steps(p[0], p[1], n)
			if e != api.OK || len(l) != n {
				t.Fatalf("Steps(%v, %v, %d): %d numbers and error %d", p[0], p[1], n, len(l), e)
			}
			for k, x := range l {
				if want := wantedCode(c, d, k+1, n); score.Code(x) != want {
					t.Errorf("Steps(%v, %v, %d): the code of place %d is %x, not %x", p[0], p[1], n, k, score.Code(x), want)
				}
			}
		}
	}
}

// P1.11
func TestStepsRefuse(t *testing.T) {
	for _, n := range []int{0, -1, 1001, math.MinInt, math.MaxInt} {
		if l, e := score.Steps(1, 2, n); e != api.ErrArg || len(l) != 0 {
			t.Errorf("Steps(1, 2, %d): %v and error %d", n, l, e)
		}
	}
	for _, x := range noScores() {
		for _, n := range []int{-1, 0, 1, 1000, 1001} {
			for _, p := range [][2]float64{{x, 1}, {1, x}, {x, x}} {
				if l, e := score.Steps(p[0], p[1], n); e != api.ErrScore || len(l) != 0 {
					t.Errorf("Steps(%v, %v, %d): %v and error %d", p[0], p[1], n, l, e)
				}
			}
		}
	}
}

// P1.5
func TestOrder(t *testing.T) {
	nan, inf := math.NaN(), math.Inf(1)
	for _, c := range []struct {
		l    []float64
		want []int
	}{
		{nil, nil}, {[]float64{}, nil}, {[]float64{3}, []int{0}}, {[]float64{-2, 0, -1}, []int{1, 2, 0}},
		{[]float64{1, 1, 1}, []int{0, 1, 2}}, {[]float64{1, 2, 1, 2}, []int{1, 3, 0, 2}},
		{[]float64{below, 0, below, 0}, []int{1, 3, 0, 2}},
		{[]float64{inf, nan, -inf, from(0xFFF0000000000001), 0}, []int{1, 3, 0, 4, 2}},
	} {
		if got := score.Order(c.l); !slices.Equal(got, c.want) {
			t.Errorf("Order(%v): %v, not %v", c.l, got, c.want)
		}
	}
}

// P1.5
func TestFalls(t *testing.T) {
	nan, inf := math.NaN(), math.Inf(1)
	for _, l := range [][]float64{nil, {}, {nan}, {1}, {1, 1}, {2, 1}, {0, below}, {nan, inf, 1, 0, below, -1, -inf}, {nan, from(0xFFF0000000000001), nan}} {
		if !score.Falls(l) {
			t.Errorf("%v does not fall", l)
		}
	}
	for _, l := range [][]float64{{1, 2}, {below, 0}, {inf, nan}, {-inf, -1}, {3, 2, 1, 2}, {1, 2, 0}, {0, from(0xFFF0000000000001)}} {
		if score.Falls(l) {
			t.Errorf("%v falls", l)
		}
	}
}

// P1.6
func TestCodesGoThereAndBack(t *testing.T) {
	for _, x := range some() {
		y, e := score.Back(score.Code(x))
		if e != api.OK || !same(x, y) && !(math.IsNaN(x) && bitsOf(y) == answeredNaN) {
			t.Errorf("the bits %x come back as %x, error %d", bitsOf(x), bitsOf(y), e)
		}
	}
	r := rand.New(rand.NewSource(2))
	for range 2000 {
		c := r.Uint64()
		if x, e := score.Back(c); e == api.OK && score.Code(x) != c {
			t.Errorf("the code %x comes back as %x", c, score.Code(x))
		}
	}
}

// P1.6
func TestCodesOrderNumbers(t *testing.T) {
	l := some()
	for _, a := range l {
		for _, b := range l {
			if math.IsNaN(a) || math.IsNaN(b) || a == 0 && b == 0 {
				continue
			}
			if (a < b) != (score.Code(a) < score.Code(b)) {
				t.Errorf("%v and %v have the codes %x and %x", a, b, score.Code(a), score.Code(b))
			}
		}
	}
	if score.Code(below)+1 != score.Code(0) {
		t.Error("the zero below is not just below the zero")
	}
}

// P1.7
func TestBytesGoThereAndBack(t *testing.T) {
	for _, x := range scores() {
		b, e := score.Bytes(x)
		if e != api.OK || len(b) != 8 {
			t.Fatalf("Bytes(%v): %v and error %d", x, b, e)
		}
		if y, e := score.Read(b); e != api.OK || !same(x, y) {
			t.Errorf("%v comes back as %v, error %d", x, y, e)
		}
	}
}

// P1.8
func TestNothingBetween(t *testing.T) {
	l := some()
	for _, x := range l {
		n := score.Next(x)
		if !math.IsNaN(x) && score.Compare(n, x) != 1 {
			t.Errorf("the next one of %v is %v", x, n)
		}
		for _, y := range l {
			if score.Compare(y, x) == 1 && score.Compare(n, y) == 1 {
				t.Errorf("between %v and %v is %v", x, n, y)
			}
		}
		if !math.IsNaN(x) && !math.IsInf(x, 1) && x != 0 && !same(n, math.Nextafter(x, math.Inf(1))) && n != 0 {
			t.Errorf("the next one of %v is %v", x, n)
		}
	}
}

// P1.9
func TestOrderFalls(t *testing.T) {
	r := rand.New(rand.NewSource(3))
	for n := range 60 {
		l := some()
		r.Shuffle(len(l), func(i, j int) { l[i], l[j] = l[j], l[i] })
		l = append(l[:n], l[:n/2]...) // some stand twice
		kept := slices.Clone(l)
		places := score.Order(l)
		if !sameAll(l, kept) {
			t.Fatal("Order changed what it was given")
		}
		put := []float64{}
		for k, p := range places {
			put = append(put, l[p])
			if k > 0 && score.Compare(l[p], l[places[k-1]]) == 0 && p < places[k-1] {
				t.Errorf("of two numbers of one code the later one comes first: %v", places)
			}
		}
		if !score.Falls(put) {
			t.Errorf("%v does not fall", put)
		}
		slices.Sort(places)
		for k, p := range places {
			if k != p {
				t.Fatalf("not each place once: %v", places)
			}
		}
		if len(places) != len(l) {
			t.Fatalf("%d places of %d numbers", len(places), len(l))
		}
	}
}

// P1.10
func TestTotalHangsOnNoZero(t *testing.T) {
	for _, l := range [][]float64{{}, {1, 2, 3}, {0.1, 0.2, 0.3, -0.6}, {1e308, -1e308}, {-5e-324, 1}, {1e308, 1e308}} {
		want, err := score.Total(l)
		for i := range len(l) + 1 {
			with := slices.Insert(slices.Clone(l), i, 0)
			if got, e := score.Total(with); e != err || !same(got, want) {
				t.Errorf("Total(%v): %v and error %d, not %v and %d", with, got, e, want, err)
			}
		}
	}
}

// P1.10
func TestMidLiesBetween(t *testing.T) {
	l := scores()
	for _, a := range l {
		for _, b := range l {
			m, e := score.Mid(a, b)
			if e != api.OK {
				t.Fatalf("Mid(%v, %v): error %d", a, b, e)
			}
			if other, _ := score.Mid(b, a); !same(m, other) {
				t.Errorf("Mid(%v, %v) and Mid(%v, %v): %v and %v", a, b, b, a, m, other)
			}
			lo, hi := min(score.Code(a), score.Code(b)), max(score.Code(a), score.Code(b))
			c := score.Code(m)
			if c < lo || c > hi || hi-c-(c-lo) > 1 { // the lesser one of two: the way up may be one longer
				t.Errorf("Mid(%v, %v): %v", a, b, m)
			}
		}
	}
}

// P1.12
func TestNextAndPrevUndoEachOther(t *testing.T) {
	for _, x := range some() {
		if math.IsNaN(x) {
			continue
		}
		if got := score.Prev(score.Next(x)); !same(got, x) {
			t.Errorf("the number below the next one of %v is %v", x, got)
		}
		if got := score.Next(score.Prev(x)); !math.IsInf(x, -1) && !same(got, x) {
			t.Errorf("the next one of that below %v is %v", x, got)
		}
	}
}

// P1.12
func TestStepsDoNotFall(t *testing.T) {
	l := scores()
	for i, a := range l {
		b := l[(i*7+3)%len(l)]
		steps, e := score.Steps(a, b, 1+i%40)
		if e != api.OK {
			t.Fatalf("Steps(%v, %v): error %d", a, b, e)
		}
		last, hi := min(score.Code(a), score.Code(b)), max(score.Code(a), score.Code(b))
		for _, x := range steps {
			c := score.Code(x)
			if c < last || c > hi {
				t.Errorf("Steps(%v, %v): %v", a, b, steps)
				break
			}
			last = c
		}
	}
}

// Rule 3 of the document: what is handed in is neither changed nor kept, what is answered is new memory.
func TestMemoryIsNotShared(t *testing.T) {
	b, _ := score.Bytes(1)
	clear(b)
	if c, _ := score.Bytes(1); c[0] != 0x3F {
		t.Error("Bytes hands out memory twice")
	}
	l := []float64{3, 1, 2}
	score.Total(l)
	score.Falls(l)
	places := score.Order(l)
	clear(places)
	if !slices.Equal(l, []float64{3, 1, 2}) || !slices.Equal(score.Order(l), []int{0, 2, 1}) {
		t.Error("a list that is handed in is changed, or one that is answered is handed out twice")
	}
}

// P1
func TestEveryCallEnds(t *testing.T) {
	l := some()
	score.Total(l)
	score.Order(l)
	score.Falls(l)
	for _, a := range l {
		score.Class(a)
		score.Back(bitsOf(a))
		score.Bytes(a)
		score.Next(a)
		score.Prev(a)
		for _, b := range l {
			score.Compare(a, b)
			score.Mid(a, b)
			score.Steps(a, b, 1)
			score.Steps(a, b, math.MinInt)
		}
	}
	score.Read(nil)
}
