package merkle_test

import (
	"bytes"
	"encoding/hex"
	"math"
	"testing"

	"imprimatur/api"
	"imprimatur/merkle"
)

var (
	chunkSizes      = []int64{64, 65, 100, 127, 128, 512, 1000, 1023, 1024}
	wrongChunkSizes = []int64{math.MinInt64, -64, -1, 0, 1, 63, 1025, 2048, 1 << 32, math.MaxInt64}
)

// P6.1
func TestCount(t *testing.T) {
	if n, e := merkle.Count(65, 64); e != api.OK || n != 2 {
		t.Errorf("Count(65, 64): %d and error %d", n, e)
	}
	for _, c := range chunkSizes {
		want := 0
		for size := int64(0); size <= api.MaxBundle; size++ {
			if size%c == 1 {
				want++
			}
			if n, e := merkle.Count(size, c); e != api.OK || n != want {
				t.Fatalf("Count(%d, %d): %d and error %d, not %d", size, c, n, e, want)
			}
		}
		for _, size := range []int64{api.MaxBundle + 1, 1 << 18, 1 << 32, math.MaxInt64 - 1, math.MaxInt64} {
			if n, e := merkle.Count(size, c); e != api.ErrLong || n != 0 {
				t.Errorf("Count(%d, %d): %d and error %d", size, c, n, e)
			}
		}
		for _, size := range []int64{-1, -64, math.MinInt64} {
			if n, e := merkle.Count(size, c); e != api.ErrArg || n != 0 {
				t.Errorf("Count(%d, %d): %d and error %d", size, c, n, e)
			}
		}
	}
	for _, c := range wrongChunkSizes {
		for _, size := range []int64{-1, 0, 64, api.MaxBundle, api.MaxBundle + 1, math.MaxInt64} {
			if n, e := merkle.Count(size, c); e != api.ErrArg || n != 0 {
				t.Errorf("Count(%d, %d): %d and error %d", size, c, n, e)
			}
		}
	}
}

// P6.1, P6.6
func TestCut(t *testing.T) {
	for _, c := range chunkSizes {
		for _, size := range []int{0, 1, 63, 64, 65, 127, 128, 129, 1000, 1023, 1024, 1025, 2048, 99999, api.MaxBundle - 1, api.MaxBundle} {
			b := text(size)
			l, e := merkle.Cut(b, c)
			n, _ := merkle.Count(int64(size), c)
			if e != api.OK || len(l) != n || !bytes.Equal(bytes.Join(l, nil), b) {
				t.Fatalf("Cut of %d bytes by %d: %d chunks and error %d", size, c, len(l), e)
			}
			for i, p := range l {
				if i+1 < len(l) && len(p) != int(c) || len(p) == 0 || len(p) > int(c) {
					t.Fatalf("Cut of %d bytes by %d: the chunk %d has %d bytes", size, c, i, len(p))
				}
			}
		}
		if l, e := merkle.Cut(nil, c); e != api.OK || len(l) != 0 {
			t.Errorf("Cut of nothing by %d: %v and error %d", c, l, e)
		}
		if l, e := merkle.Cut(make([]byte, api.MaxBundle+1), c); e != api.ErrLong || l != nil {
			t.Errorf("Cut of too many bytes by %d: %d chunks and error %d", c, len(l), e)
		}
	}
	for _, c := range wrongChunkSizes {
		for _, size := range []int{0, 100, api.MaxBundle + 1} {
			if l, e := merkle.Cut(make([]byte, size), c); e != api.ErrArg || l != nil {
				t.Errorf("Cut of %d bytes by %d: %d chunks and error %d", size, c, len(l), e)
			}
		}
	}
}

// P6.2
func TestLeaf(t *testing.T) {
	for _, place := range []int{0, 1, 255, 256, 65535, api.MaxLeaves - 1, api.MaxLeaves, 1 << 32, math.MaxInt} {
		for _, size := range []int{0, 1, 32, 63, 64, 65, 1023, api.MaxChunk} {
			b := text(size)
			if l, e := merkle.Leaf(place, b); e != api.OK || !bytes.Equal(l, known([]byte{0}, eight(place), b)) {
				t.Errorf("Leaf(%d, %d bytes): %x and error %d", place, size, l, e)
			}
		}
		for _, size := range []int{api.MaxChunk + 1, 1 << 16, 1<<20 + 1} {
			if l, e := merkle.Leaf(place, make([]byte, size)); e != api.ErrLong || l != nil {
				t.Errorf("Leaf(%d, %d bytes): %x and error %d", place, size, l, e)
			}
		}
	}
	for _, place := range []int{-1, -256, math.MinInt} {
		for _, size := range []int{0, 64, api.MaxChunk, api.MaxChunk + 1} {
			if l, e := merkle.Leaf(place, make([]byte, size)); e != api.ErrArg || l != nil {
				t.Errorf("Leaf(%d, %d bytes): %x and error %d", place, size, l, e)
			}
		}
	}
	if l, e := merkle.Leaf(0, nil); e != api.OK || !bytes.Equal(l, known(make([]byte, 9))) {
		t.Errorf("Leaf(0, nil): %x and error %d", l, e)
	}
}

// P6.2: digests reckoned elsewhere.
func TestKnownDigests(t *testing.T) {
	var five [][]byte
	for i := range 5 {
		l, _ := merkle.Leaf(i, []byte{byte(i)})
		five = append(five, l)
	}
	x := make([]byte, 150)
	for i := range x {
		x[i] = byte(i)
	}
	of := func(b []byte, e api.Errno) string {
		if e != api.OK {
			t.Errorf("error %d", e)
		}
		return hex.EncodeToString(b)
	}
	for _, c := range [][2]string{
		{of(merkle.Leaf(0, nil)), "3e7077fd2f66d689e0cee6a7cf5b37bf2dca7c979af356d0a31cbc5c85605c7d"},
		{of(merkle.Leaf(258, []byte("abc"))), "71bebfa5ca39a21dc1629286c09d0f536780c748291d4c294714d773c97dcf7d"},
		{of(merkle.Root(nil)), "4322fd2bc0a137d1375b37b3b2e2b4715b3d3dd7ca9682438d4fea0f8437fad3"},
		{of(merkle.Root(five[:1])), "99e09deac47fb72f9aae0992409026cdef4550a6537b69ec305ce1f175392a24"},
		{of(merkle.Root(five)), "5f9a08f306fecffd3ef51b5a1ffb2e560fe5fe0fb8f93d1d68003403eec2024c"},
		{of(merkle.Of(x, 64)), "a571b4a8b50bbe1ee7966da5a098464682ff7033515e52db624c1c8f201cabea"},
	} {
		if c[0] != c[1] {
			t.Errorf("%s, not %s", c[0], c[1])
		}
	}
}

// P6.2
func TestRoot(t *testing.T) {
	for _, n := range append(sizes(), 0) {
		l := leavesOf(n)
		if r := rootFor(t, l); !bytes.Equal(r, rootOf(l)) {
			t.Errorf("Root of %d leaves: %x", n, r)
		}
	}
	if r, e := merkle.Root([][]byte{}); e != api.OK || !bytes.Equal(r, known([]byte{2}, make([]byte, 8))) {
		t.Errorf("Root of none: %x and error %d", r, e)
	}
}

// P6.2, P6.3, P6.10: what is no leaves has no root and no proof.
func TestWrongLeavesAreRefused(t *testing.T) {
	refused := func(l [][]byte, want api.Errno) {
		t.Helper()
		if r, e := merkle.Root(l); e != want || r != nil {
			t.Errorf("Root: %x and error %d, not %d", r, e, want)
		}
		for _, place := range []int{0, len(l) - 1, -1, len(l)} {
			if p, e := merkle.Prove(l, place); e != want || p != nil {
				t.Errorf("Prove of the place %d: %x and error %d, not %d", place, p, e, want)
			}
			if p, e := merkle.ProveRange(l, place, len(l)); e != want || p != nil {
				t.Errorf("ProveRange from %d on: %x and error %d, not %d", place, p, e, want)
			}
		}
	}
	for _, n := range []int{1, 2, 7, api.MaxLeaves} {
		for _, size := range []int{0, 1, 31, 33, 64} {
			for _, place := range []int{0, n / 2, n - 1} {
				refused(with(leavesOf(n), place, make([]byte, size)), api.ErrArg)
			}
		}
		refused(with(leavesOf(n), 0, nil), api.ErrArg)
	}
	for _, n := range []int{api.MaxLeaves + 1, 2 * api.MaxLeaves, 1 << 16} {
		refused(make([][]byte, n), api.ErrLong)
		refused(leavesOf(n), api.ErrLong)
	}
}

// P6.2
func TestOf(t *testing.T) {
	for _, c := range chunkSizes {
		for _, size := range []int{0, 1, 63, 64, 65, 128, 1024, 1025, 5000, api.MaxBundle - 1, api.MaxBundle} {
			b := text(size)
			var l [][]byte
			for at := 0; at < size; at += int(c) {
				l = append(l, known([]byte{0}, eight(len(l)), b[at:min(at+int(c), size)]))
			}
			if r, e := merkle.Of(b, c); e != api.OK || !bytes.Equal(r, rootOf(l)) {
				t.Errorf("Of %d bytes by %d: %x and error %d", size, c, r, e)
			}
		}
		if r, e := merkle.Of(make([]byte, api.MaxBundle+1), c); e != api.ErrLong || r != nil {
			t.Errorf("Of too many bytes by %d: %x and error %d", c, r, e)
		}
	}
	for _, c := range wrongChunkSizes {
		for _, size := range []int{0, 100, api.MaxBundle + 1} {
			if r, e := merkle.Of(make([]byte, size), c); e != api.ErrArg || r != nil {
				t.Errorf("Of %d bytes by %d: %x and error %d", size, c, r, e)
			}
		}
	}
}
