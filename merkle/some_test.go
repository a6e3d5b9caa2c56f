package merkle_test

import (
	"bytes"
	"crypto/sha256"
	"encoding/binary"
	"math"
	"math/rand"
	"slices"
	"testing"

	"imprimatur/api"
	"imprimatur/merkle"
)

// sizes are numbers of leaves: all small ones, those about powers of 2, the greatest ones.
func sizes() []int {
	var l []int
	for n := 1; n <= 33; n++ {
		l = append(l, n)
	}
	for n := 64; n <= api.MaxLeaves; n *= 2 {
		l = append(l, n-1, n)
		if n < api.MaxLeaves {
			l = append(l, n+1, n+n/2+3)
		}
	}
	return l
}

// ends are numbers far out of all bounds.
var ends = []int{math.MinInt, math.MinInt + 1, -1 << 32, -1, math.MaxInt - 1, math.MaxInt, 1 << 32}

// text is n bytes of chance, the same ones each time.
func text(n int) []byte {
	b := make([]byte, n)
	rand.New(rand.NewSource(int64(n) + 1)).Read(b)
	return b
}

// known is the library's Sha256 of pieces.
func known(pieces ...[]byte) []byte {
	s := sha256.Sum256(bytes.Join(pieces, nil))
	return s[:]
}

func eight(n int) []byte {
	return binary.BigEndian.AppendUint64(nil, uint64(n))
}

// leavesOf are the leaves of n short chunks, reckoned by the library.
func leavesOf(n int) [][]byte {
	l := make([][]byte, n)
	for i := range l {
		l[i] = known([]byte{0}, eight(i), []byte{byte(i), byte(i >> 8), 7})
	}
	return l
}

// node is a part of a tree: its places and its top.
type node struct {
	from, to int
	top      []byte
}

// levels is a tree from its leaves up: neighbours are joined by twos, one that is left over goes up as it is.
func levels(leaves [][]byte) [][]node {
	row := make([]node, len(leaves))
	for i, l := range leaves {
		row[i] = node{i, i + 1, l}
	}
	all := [][]node{row}
	for len(row) > 1 {
		var next []node
		for i := 0; i < len(row); i += 2 {
			if i+1 == len(row) {
				next = append(next, row[i])
			} else {
				next = append(next, node{row[i].from, row[i+1].to, known([]byte{1}, row[i].top, row[i+1].top)})
			}
		}
		all = append(all, next)
		row = next
	}
	return all
}

// rootOf is the root by the tree from its leaves up.
func rootOf(leaves [][]byte) []byte {
	var top []byte
	if len(leaves) > 0 {
		all := levels(leaves)
		top = all[len(all)-1][0].top
	}
	return known([]byte{2}, eight(len(leaves)), top)
}

// proofOf is the proof by the tree from its leaves up.
func proofOf(tree [][]node, place int) [][]byte {
	var l [][]byte
	for _, row := range tree {
		if other := place ^ 1; other < len(row) {
			l = append(l, row[other].top)
		}
		place /= 2
	}
	return l
}

// rangeProofOf is the range proof by the tree from its leaves up: of all parts without a place of the range those that stand in no other such one.
func rangeProofOf(tree [][]node, from, to int) [][]byte {
	var kept []node
	for i := len(tree) - 1; i >= 0; i-- {
		for _, p := range tree[i] {
			inOther := slices.ContainsFunc(kept, func(k node) bool { return p.from >= k.from && p.to <= k.to })
			if !inOther && (p.to <= from || p.from >= to) {
				kept = append(kept, p)
			}
		}
	}
	slices.SortFunc(kept, func(a, b node) int { return a.from - b.from })
	var l [][]byte
	for _, k := range kept {
		l = append(l, k.top)
	}
	return l
}

// alike tells whether two lists have the same pieces.
func alike(a, b [][]byte) bool {
	return slices.EqualFunc(a, b, bytes.Equal)
}

// copied is a list of pieces of its own.
func copied(l [][]byte) [][]byte {
	c := make([][]byte, len(l))
	for i, b := range l {
		c[i] = bytes.Clone(b)
	}
	return c
}

// with is a list of its own with another piece at a place.
func with(l [][]byte, place int, b []byte) [][]byte {
	c := slices.Clone(l)
	c[place] = b
	return c
}

// flipped are bytes of their own with one binary digit turned.
func flipped(b []byte, digit int) []byte {
	c := bytes.Clone(b)
	c[digit/8] ^= 1 << (digit % 8)
	return c
}

// places are some places of n: both ends, those about the middle, and some of chance.
func places(r *rand.Rand, n int) []int {
	l := []int{0, n / 2, n - 1, max(n/2-1, 0), max(n-2, 0)}
	for range 5 {
		l = append(l, r.Intn(n))
	}
	return l
}

func rootFor(t *testing.T, leaves [][]byte) []byte {
	t.Helper()
	r, e := merkle.Root(leaves)
	if e != api.OK {
		t.Fatalf("Root of %d leaves: error %d", len(leaves), e)
	}
	return r
}

func proofFor(t *testing.T, leaves [][]byte, place int) [][]byte {
	t.Helper()
	p, e := merkle.Prove(leaves, place)
	if e != api.OK {
		t.Fatalf("Prove of the place %d of %d leaves: error %d", place, len(leaves), e)
	}
	return p
}

func rangeProofFor(t *testing.T, leaves [][]byte, from, to int) [][]byte {
	t.Helper()
	p, e := merkle.ProveRange(leaves, from, to)
	if e != api.OK {
		t.Fatalf("ProveRange of %d to %d of %d leaves: error %d", from, to, len(leaves), e)
	}
	return p
}
