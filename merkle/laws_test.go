package merkle_test

import (
	"bytes"
	"math"
	"math/rand"
	"testing"

	"imprimatur/api"
	"imprimatur/merkle"
)

// W1, P6.7: a chunk is proved wherever it lay, and there only.
func TestChunksAreProved(t *testing.T) {
	for _, c := range []int64{64, 200, 1024} {
		for _, size := range []int{1, 64, 65, 1000, 5000} {
			b := text(size)
			root, _ := merkle.Of(b, c)
			chunks, _ := merkle.Cut(b, c)
			leaves := make([][]byte, len(chunks))
			for i, x := range chunks {
				leaves[i], _ = merkle.Leaf(i, x)
			}
			for i, x := range chunks {
				p := proofFor(t, leaves, i)
				if e := merkle.Check(root, len(chunks), i, leaves[i], p); e != api.OK {
					t.Fatalf("the chunk %d of %d bytes by %d: error %d", i, size, c, e)
				}
				for at := range chunks {
					l, _ := merkle.Leaf(at, x)
					if at != i && merkle.Check(root, len(chunks), at, l, p) != api.ErrProof {
						t.Fatalf("the chunk %d of %d bytes by %d is proved at %d", i, size, c, at)
					}
				}
				l, _ := merkle.Leaf(i, flipped(x, len(x)*4))
				if e := merkle.Check(root, len(chunks), i, l, p); e != api.ErrProof {
					t.Fatalf("another chunk %d of %d bytes by %d: error %d", i, size, c, e)
				}
			}
		}
	}
}

// Rule 3
func TestAnswersAreNewMemory(t *testing.T) {
	b := text(200)
	given := bytes.Clone(b)
	chunks, _ := merkle.Cut(b, 64)
	for i := range chunks {
		_ = append(chunks[i], 1, 2, 3)
		clear(chunks[i])
		if i+1 < len(chunks) && !bytes.Equal(chunks[i+1], given[64*(i+1):min(64*(i+2), 200)]) {
			t.Errorf("the chunks %d and %d share memory", i, i+1)
		}
	}
	if !bytes.Equal(b, given) {
		t.Error("Cut hands out what it was given")
	}
	for n := 1; n <= 9; n++ {
		for place := range n {
			l := leavesOf(n)
			for _, p := range [][][]byte{proofFor(t, l, place), rangeProofFor(t, l, place, place+1), rangeProofFor(t, l, place/2, place+1)} {
				for i := range p {
					rest := copied(p[i+1:])
					_ = append(p[i], 1, 2, 3)
					clear(p[i])
					if !alike(rest, p[i+1:]) {
						t.Fatalf("pieces of the proof of the place %d of %d share memory", place, n)
					}
				}
			}
			if r := rootFor(t, l[:1]); &r[0] == &l[0][0] || !alike(l, leavesOf(n)) {
				t.Fatalf("a proof of the place %d of %d hands out what it was given", place, n)
			}
		}
	}
	m, _ := merkle.Empty(20)
	p, _ := merkle.Put(m, 20, 3)
	q, _ := merkle.Put(p, 20, 3)
	clear(q)
	if !bytes.Equal(m, make([]byte, 3)) || !bytes.Equal(p, []byte{8, 0, 0}) {
		t.Error("Put changes or hands out what it was given")
	}
}

// Rule 3: checks change nothing either.
func TestChecksChangeNothing(t *testing.T) {
	for n := 1; n <= 9; n++ {
		l := leavesOf(n)
		root := rootFor(t, l)
		for place := range n {
			p, q := proofFor(t, l, place), rangeProofFor(t, l, place, n)
			c, d, r := copied(p), copied(q), bytes.Clone(root)
			for range 2 {
				if merkle.Check(root, n, place, l[place], p) != api.OK || merkle.CheckRange(root, n, place, l[place:], q) != api.OK {
					t.Fatalf("a proof of the place %d of %d is not right", place, n)
				}
			}
			if !alike(c, p) || !alike(d, q) || !bytes.Equal(r, root) || !alike(l, leavesOf(n)) {
				t.Fatalf("a check of the place %d of %d changes what it was given", place, n)
			}
		}
	}
}

// P1: arguments of chance, many of them out of bounds.
func TestEveryCallEnds(t *testing.T) {
	r := rand.New(rand.NewSource(7))
	some := append([]int{0, 1, 2, 3, 5, 8, 31, 32, 33, 63, 64, 65, 1024, 1025, api.MaxLeaves, api.MaxLeaves + 1, api.MaxBundle, math.MaxInt32}, ends...)
	of := func() int { return some[r.Intn(len(some))] }
	piece := func() []byte {
		size := []int{32, 32, 32, 32, 32, 0, 31, 33}[r.Intn(8)]
		return make([]byte, size)
	}
	list := func() [][]byte {
		var l [][]byte
		for range r.Intn(12) {
			l = append(l, piece())
		}
		return l
	}
	for range 50000 {
		b := make([]byte, r.Intn(300))
		merkle.Count(int64(of()), int64(of()))
		merkle.Cut(b, int64(of()))
		merkle.Of(b, int64(of()))
		merkle.Leaf(of(), b)
		merkle.Root(list())
		merkle.Prove(list(), of())
		merkle.ProveRange(list(), of(), of())
		if e := merkle.Check(piece(), of(), of(), piece(), list()); e != api.ErrArg && e != api.ErrProof {
			t.Fatalf("Check: error %d", e)
		}
		if e := merkle.CheckRange(piece(), of(), of(), list(), list()); e != api.ErrArg && e != api.ErrProof {
			t.Fatalf("CheckRange: error %d", e)
		}
		merkle.Empty(of())
		merkle.Right(b, of())
		merkle.Put(b, of(), of())
		merkle.Has(b, of(), of())
		merkle.Missing(b, of())
	}
}

func BenchmarkOf(b *testing.B) {
	x := text(api.MaxBundle)
	for range b.N {
		merkle.Of(x, api.MinChunk)
	}
}
