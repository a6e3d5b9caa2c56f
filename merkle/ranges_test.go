package merkle_test

import (
	"math/rand"
	"slices"
	"testing"

	"imprimatur/api"
	"imprimatur/merkle"
)

// P6.10, P6.11
func TestProofsOfAllRanges(t *testing.T) {
	for n := 1; n <= 20; n++ {
		l := leavesOf(n)
		root, tree := rootFor(t, l), levels(l)
		for from := range n {
			for to := from + 1; to <= n; to++ {
				provesRangeAsTold(t, root, l, tree, from, to)
			}
		}
	}
}

// P6.10, P6.11
func TestProofsOfRangesOfManyLeaves(t *testing.T) {
	r := rand.New(rand.NewSource(3))
	for _, n := range sizes() {
		l := leavesOf(n)
		root, tree := rootFor(t, l), levels(l)
		for _, a := range places(r, n) {
			b := r.Intn(n)
			provesRangeAsTold(t, root, l, tree, min(a, b), max(a, b)+1)
			provesRangeAsTold(t, root, l, tree, a, a+1)
		}
		provesRangeAsTold(t, root, l, tree, 0, n)
	}
}

// provesRangeAsTold tells of a range proof that is another one than the document's, or is not right.
func provesRangeAsTold(t *testing.T, root []byte, l [][]byte, tree [][]node, from, to int) {
	t.Helper()
	p := rangeProofFor(t, l, from, to)
	if !alike(p, rangeProofOf(tree, from, to)) {
		t.Fatalf("ProveRange of %d to %d of %d: %x", from, to, len(l), p)
	}
	if e := merkle.CheckRange(root, len(l), from, l[from:to], p); e != api.OK {
		t.Fatalf("CheckRange of %d to %d of %d: error %d", from, to, len(l), e)
	}
	if whole := to-from == len(l); whole != (len(p) == 0) {
		t.Fatalf("ProveRange of %d to %d of %d: %d pieces", from, to, len(l), len(p))
	}
}

// P6.10: the first half comes ahead of the second one, in all parts.
func TestOrderOfARangeProof(t *testing.T) {
	l := leavesOf(8)
	tree := levels(l)
	if p := rangeProofFor(t, l, 1, 2); !alike(p, [][]byte{l[0], tree[1][1].top, tree[2][1].top}) {
		t.Errorf("ProveRange of 1 to 2 of 8: %x", p)
	}
	if p := rangeProofFor(t, l, 4, 6); !alike(p, [][]byte{tree[2][0].top, tree[1][3].top}) {
		t.Errorf("ProveRange of 4 to 6 of 8: %x", p)
	}
	if p := rangeProofFor(t, l, 3, 6); !alike(p, [][]byte{tree[1][0].top, l[2], tree[1][3].top}) {
		t.Errorf("ProveRange of 3 to 6 of 8: %x", p)
	}
	if p := rangeProofFor(t, l[:7], 5, 6); !alike(p, [][]byte{tree[2][0].top, l[4], l[6]}) {
		t.Errorf("ProveRange of 5 to 6 of 7: %x", p)
	}
}

// P6.10
func TestProveRangeRefuses(t *testing.T) {
	for _, n := range []int{0, 1, 2, 5, api.MaxLeaves} {
		l := leavesOf(n)
		refused := func(from, to int) {
			t.Helper()
			if p, e := merkle.ProveRange(l, from, to); e != api.ErrArg || p != nil {
				t.Errorf("ProveRange of %d to %d of %d: %x and error %d", from, to, n, p, e)
			}
		}
		for _, c := range [][2]int{{0, 0}, {n, n}, {n, n + 1}, {0, n + 1}, {1, 0}, {n, n - 1}, {-1, n}, {-1, 0}, {-2, -1}, {n + 1, n + 2}} {
			refused(c[0], c[1])
		}
		for _, x := range ends {
			refused(x, n)
			refused(0, x)
			for _, y := range ends {
				refused(x, y)
			}
		}
	}
}

// P6.10: ErrArg comes ahead of ErrProof: what is asked is wrong in each of these in another way, too.
func TestCheckRangeRefusesArguments(t *testing.T) {
	l := leavesOf(7)
	root, p := rootFor(t, l), rangeProofFor(t, l, 2, 5)
	refused := func(root []byte, n, from int, leaves, proof [][]byte) {
		t.Helper()
		for _, q := range [][][]byte{proof, append(copied(proof), l[0]), append(copied(proof), l[0], l[0], l[0])} {
			if e := merkle.CheckRange(root, n, from, leaves, q); e != api.ErrArg {
				t.Errorf("CheckRange of %d from %d on of %d, root %d, proof %d: error %d", len(leaves), from, n, len(root), len(q), e)
			}
		}
	}
	for _, n := range append([]int{0, api.MaxLeaves + 1}, ends...) {
		refused(root, n, 2, l[2:5], p)
		refused(root, n, 0, l[2:5], p)
		refused(root, n, n-3, l[2:5], p)
	}
	for _, from := range append([]int{5, 6, 7, 8}, ends...) {
		refused(root, 7, from, l[2:5], p)
	}
	refused(root, 7, 1, l, p)
	refused(root, 6, 0, l, p)
	refused(root, 2, 0, l[2:5], p)
	refused(root, 2, -1, l[2:5], p)
	refused(root, 7, 2, nil, p)
	refused(root, 7, 2, [][]byte{}, p)
	refused(root, 7, 7, nil, p)
	refused(root, 7, 0, make([][]byte, 1<<16), p)
	for _, size := range []int{0, 1, 31, 33, 64} {
		b := make([]byte, size)
		refused(b, 7, 2, l[2:5], p)
		for i := range 3 {
			refused(root, 7, 2, with(l[2:5], i, b), p)
		}
		for i := range p {
			refused(root, 7, 2, l[2:5], with(p, i, b))
		}
		refused(root, 7, 2, l[2:5], append(copied(p), b))
		refused(root, 7, 0, l, [][]byte{b})
	}
	refused(nil, 7, 2, l[2:5], p)
	refused(root, 7, 2, make([][]byte, 3), p)
	if e := merkle.CheckRange(root, 7, 2, l[2:5], p); e != api.OK {
		t.Errorf("CheckRange: error %d", e)
	}
}

// P6.10
func TestCheckRangeRefusesProofs(t *testing.T) {
	r := rand.New(rand.NewSource(4))
	for _, n := range sizes() {
		l := leavesOf(n)
		root := rootFor(t, l)
		for _, a := range places(r, n)[:4] {
			b := r.Intn(n)
			from, to := min(a, b), max(a, b)+1
			p, some := rangeProofFor(t, l, from, to), l[from:to]
			refused := func(what string, root []byte, leaves, proof [][]byte) {
				t.Helper()
				if e := merkle.CheckRange(root, n, from, leaves, proof); e != api.ErrProof {
					t.Fatalf("CheckRange of %d to %d of %d, %s: error %d", from, to, n, what, e)
				}
			}
			digit, place := r.Intn(256), r.Intn(len(some))
			refused("another root", flipped(root, digit), some, p)
			refused("another leaf", root, with(some, place, flipped(some[place], digit)), p)
			refused("one too many", root, some, append(copied(p), root))
			refused("many too many", root, some, append(copied(p), copied(l)...))
			if len(some) > 1 {
				refused("a leaf less", root, some[1:], p)
				refused("a leaf less", root, some[:len(some)-1], p)
				refused("leaves the other way", root, with(with(some, 0, some[1]), 1, some[0]), p)
			}
			for i := range p {
				refused("another piece", root, some, with(p, i, flipped(p[i], digit)))
				refused("one too few", root, some, slices.Delete(copied(p), i, i+1))
				refused("cut off", root, some, p[:i])
				if i > 0 {
					refused("the other way", root, some, with(with(p, i, p[i-1]), i-1, p[i]))
				}
			}
		}
	}
}

// P6.11: of all roots, numbers, ranges, leaves and proofs only what belongs together is right.
func TestOnlyRangesThatAreMadeAreRight(t *testing.T) {
	const most = 6
	all := leavesOf(most)
	var proofs [][][]byte
	for n := 1; n <= most; n++ {
		for from := range n {
			for to := from + 1; to <= n; to++ {
				proofs = append(proofs, rangeProofFor(t, all[:n], from, to))
			}
		}
	}
	for of := 1; of <= most; of++ {
		root := rootFor(t, all[:of])
		for n := 1; n <= most+1; n++ {
			tree := levels(leavesOf(n))
			for from := range n {
				for first := range most {
					for end := first + 1; end <= most && from+end-first <= n; end++ {
						made := rangeProofOf(tree, from, from+end-first)
						for _, p := range proofs {
							want := n == of && first == from && alike(p, made)
							e := merkle.CheckRange(root, n, from, all[first:end], p)
							if want != (e == api.OK) || !want && e != api.ErrProof {
								t.Fatalf("root of %d: the leaves %d to %d from the place %d on of %d by %x: error %d", of, first, end, from, n, p, e)
							}
						}
					}
				}
			}
		}
	}
}

// P6.7, P6.11: a range of one place has the pieces of that place's proof.
func TestRangesOfOnePlace(t *testing.T) {
	for n := 1; n <= 20; n++ {
		l := leavesOf(n)
		for place := range n {
			p, q := proofFor(t, l, place), rangeProofFor(t, l, place, place+1)
			for _, b := range q {
				if !slices.ContainsFunc(p, func(c []byte) bool { return string(b) == string(c) }) || len(p) != len(q) {
					t.Fatalf("the place %d of %d: %x and %x", place, n, p, q)
				}
			}
		}
	}
}
