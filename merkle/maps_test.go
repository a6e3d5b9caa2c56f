package merkle_test

import (
	"bytes"
	"math/rand"
	"testing"

	"imprimatur/api"
	"imprimatur/merkle"
)

// counts are numbers of chunks that a map may have.
func counts() []int {
	l := []int{64, 100, 255, 256, 257, 2048, api.MaxLeaves - 8, api.MaxLeaves - 7, api.MaxLeaves - 1, api.MaxLeaves}
	for n := range 34 {
		l = append(l, n)
	}
	return l
}

// wrongCounts are numbers of chunks that no map has.
func wrongCounts() []int {
	return append([]int{-8, api.MaxLeaves + 1, api.MaxLeaves + 8, 2 * api.MaxLeaves}, ends...)
}

// mapOf is the map of the chunks that are there.
func mapOf(there []bool) []byte {
	m := make([]byte, (len(there)+7)/8)
	for i, x := range there {
		if x {
			m[i>>3] += 1 << (i & 7)
		}
	}
	return m
}

// P6.5
func TestEmpty(t *testing.T) {
	if m, e := merkle.Empty(9); e != api.OK || !bytes.Equal(m, []byte{0, 0}) {
		t.Errorf("Empty(9): %v and error %d", m, e)
	}
	for _, n := range counts() {
		m, e := merkle.Empty(n)
		if e != api.OK || !bytes.Equal(m, mapOf(make([]bool, n))) || !merkle.Right(m, n) || merkle.Missing(m, n) != 0 {
			t.Errorf("Empty(%d): %v and error %d", n, m, e)
		}
	}
	for _, n := range wrongCounts() {
		if m, e := merkle.Empty(n); e != api.ErrArg || m != nil {
			t.Errorf("Empty(%d): %v and error %d", n, m, e)
		}
	}
}

// isRefused tells of a map that is not refused by all calls.
func isRefused(t *testing.T, m []byte, n int) {
	t.Helper()
	if merkle.Right(m, n) {
		t.Errorf("Right(%v, %d): true", m, n)
	}
	if x := merkle.Missing(m, n); x != -1 {
		t.Errorf("Missing(%v, %d): %d", m, n, x)
	}
	for _, place := range append([]int{0, 1, n / 2, n}, ends...) {
		if p, e := merkle.Put(m, n, place); e != api.ErrArg || p != nil {
			t.Errorf("Put(%v, %d, %d): %v and error %d", m, n, place, p, e)
		}
		if merkle.Has(m, n, place) {
			t.Errorf("Has(%v, %d, %d): true", m, n, place)
		}
	}
}

// P6.5
func TestMapsThatAreNotRight(t *testing.T) {
	for _, n := range counts() {
		size := (n + 7) / 8
		for _, wrong := range []int{size + 1, size + 2, 2*size + 8, size - 1, 0} {
			if wrong >= 0 && wrong != size {
				isRefused(t, make([]byte, wrong), n)
				isRefused(t, bytes.Repeat([]byte{255}, wrong), n)
			}
		}
		for above := n; above < 8*size; above++ {
			m := make([]byte, size)
			m[above/8] = 1 << (above % 8)
			isRefused(t, m, n)
		}
		if n%8 != 0 {
			isRefused(t, bytes.Repeat([]byte{255}, size), n)
		}
	}
	for _, n := range wrongCounts() {
		for _, m := range [][]byte{nil, {}, {0}, make([]byte, 512), make([]byte, 513)} {
			isRefused(t, m, n)
		}
	}
	if m := make([]byte, (api.MaxLeaves+1+7)/8); merkle.Right(m, api.MaxLeaves+1) {
		t.Error("a map of too many chunks is right")
	}
}

// P6.5, P6.9
func TestPutAndHas(t *testing.T) {
	m, _ := merkle.Empty(9)
	if p, e := merkle.Put(m, 9, 8); e != api.OK || !bytes.Equal(p, []byte{0, 1}) || merkle.Missing(p, 9) != 0 {
		t.Errorf("Put of the place 8 of 9: %v and error %d", p, e)
	}
	r := rand.New(rand.NewSource(5))
	for _, n := range counts() {
		there := make([]bool, n)
		m, _ := merkle.Empty(n)
		for k, place := range r.Perm(n) {
			if k > 60 {
				break
			}
			there[place] = true
			for range 2 { // what is there may be put, too
				p, e := merkle.Put(m, n, place)
				if e != api.OK || !bytes.Equal(p, mapOf(there)) || !merkle.Right(p, n) {
					t.Fatalf("Put(%v, %d, %d): %v and error %d", m, n, place, p, e)
				}
				m = p
			}
			for i, x := range there {
				if merkle.Has(m, n, i) != x {
					t.Fatalf("Has(%v, %d, %d): %v", m, n, i, !x)
				}
			}
		}
		for _, place := range append([]int{n, n + 1, n + 7, n + 8, 2*n + 9}, ends...) {
			if p, e := merkle.Put(m, n, place); e != api.ErrArg || p != nil || merkle.Has(m, n, place) {
				t.Errorf("Put(%v, %d, %d): %v and error %d", m, n, place, p, e)
			}
		}
	}
}

// P6.5, P6.9
func TestMissing(t *testing.T) {
	r := rand.New(rand.NewSource(6))
	for _, n := range counts() {
		there := make([]bool, n)
		for i := range there {
			there[i] = true
		}
		if x := merkle.Missing(mapOf(there), n); x != n {
			t.Errorf("Missing of a map with all %d: %d", n, x)
		}
		for first := range n {
			there[first] = false
			for i := first + 1; i < n; i++ {
				there[i] = r.Intn(2) == 0
			}
			if m := mapOf(there); merkle.Missing(m, n) != first || !merkle.Right(m, n) {
				t.Fatalf("Missing(%v, %d): %d", m, n, merkle.Missing(m, n))
			}
			for i := first; i < n; i++ {
				there[i] = true
			}
		}
	}
	if x := merkle.Missing(nil, 0); x != 0 || !merkle.Right(nil, 0) {
		t.Errorf("Missing of the map of no chunks: %d", x)
	}
}
