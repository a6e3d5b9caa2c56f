package merkle_test

import (
	"math/rand"
	"slices"
	"testing"

	"imprimatur/api"
	"imprimatur/merkle"
)

// P6.3, P6.4, P6.7
func TestProofsOfAllPlaces(t *testing.T) {
	for n := 1; n <= 40; n++ {
		l := leavesOf(n)
		root, tree := rootFor(t, l), levels(l)
		for place := range n {
			provesAsTold(t, root, l, tree, place)
		}
	}
}

// P6.3, P6.4, P6.7
func TestProofsOfManyLeaves(t *testing.T) {
	r := rand.New(rand.NewSource(1))
	for _, n := range sizes() {
		l := leavesOf(n)
		root, tree := rootFor(t, l), levels(l)
		for _, place := range places(r, n) {
			provesAsTold(t, root, l, tree, place)
		}
	}
}

// provesAsTold tells of a proof that is another one than the document's, or is not right.
func provesAsTold(t *testing.T, root []byte, l [][]byte, tree [][]node, place int) {
	t.Helper()
	p := proofFor(t, l, place)
	if !alike(p, proofOf(tree, place)) {
		t.Fatalf("Prove of the place %d of %d: %x", place, len(l), p)
	}
	if e := merkle.Check(root, len(l), place, l[place], p); e != api.OK {
		t.Fatalf("Check of the place %d of %d: error %d", place, len(l), e)
	}
}

// P6.3
func TestProveRefuses(t *testing.T) {
	for _, n := range []int{0, 1, 2, 5, 64, api.MaxLeaves} {
		for _, place := range append([]int{n, n + 1, 2*n + 1}, ends...) {
			if p, e := merkle.Prove(leavesOf(n), place); e != api.ErrArg || p != nil {
				t.Errorf("Prove of the place %d of %d: %x and error %d", place, n, p, e)
			}
		}
	}
	if p, e := merkle.Prove(leavesOf(1), 0); e != api.OK || len(p) != 0 {
		t.Errorf("Prove of the only leaf: %x and error %d", p, e)
	}
}

// P6.4: ErrArg comes ahead of ErrProof: what is asked is wrong in each of these in another way, too.
func TestCheckRefusesArguments(t *testing.T) {
	l := leavesOf(6)
	root, p := rootFor(t, l), proofFor(t, l, 4)
	refused := func(root []byte, n, place int, leaf []byte, proof [][]byte) {
		t.Helper()
		for _, q := range [][][]byte{proof, append(copied(proof), l[0]), append(copied(proof), l[0], l[0], l[0], l[0])} {
			if e := merkle.Check(root, n, place, leaf, q); e != api.ErrArg {
				t.Errorf("Check of the place %d of %d, root %d, leaf %d, proof %d: error %d", place, n, len(root), len(leaf), len(q), e)
			}
		}
	}
	for _, n := range append([]int{0, api.MaxLeaves + 1}, ends...) {
		refused(root, n, 4, l[4], p)
		refused(root, n, 0, l[4], p)
		refused(root, n, n, l[4], p)
		refused(root, n, n-1, l[4], p)
	}
	for _, place := range append([]int{6, 7}, ends...) {
		refused(root, 6, place, l[4], p)
		refused(root, api.MaxLeaves, max(place, api.MaxLeaves), l[4], p)
	}
	for _, size := range []int{0, 1, 31, 33, 64} {
		b := make([]byte, size)
		refused(b, 6, 4, l[4], p)
		refused(root, 6, 4, b, p)
		for i := range p {
			refused(root, 6, 4, l[4], with(p, i, b))
		}
		refused(root, 6, 4, l[4], append(copied(p), b))
		refused(root, 1, 0, l[4], [][]byte{b})
	}
	refused(nil, 6, 4, l[4], p)
	refused(root, 6, 4, nil, p)
	refused(root, 6, 4, l[4], [][]byte{nil, nil})
	if e := merkle.Check(root, 6, 4, l[4], p); e != api.OK {
		t.Errorf("Check: error %d", e)
	}
}

// P6.4
func TestCheckRefusesProofs(t *testing.T) {
	r := rand.New(rand.NewSource(2))
	for _, n := range sizes() {
		l := leavesOf(n)
		root := rootFor(t, l)
		for _, place := range places(r, n)[:5] {
			p := proofFor(t, l, place)
			refused := func(what string, root []byte, leaf []byte, proof [][]byte) {
				t.Helper()
				if e := merkle.Check(root, n, place, leaf, proof); e != api.ErrProof {
					t.Fatalf("Check of the place %d of %d, %s: error %d", place, n, what, e)
				}
			}
			digit := r.Intn(256)
			refused("another root", flipped(root, digit), l[place], p)
			refused("another leaf", root, flipped(l[place], digit), p)
			refused("one too many", root, l[place], append(copied(p), root))
			refused("many too many", root, l[place], append(copied(p), copied(l)...))
			for i := range p {
				refused("another piece", root, l[place], with(p, i, flipped(p[i], digit)))
				refused("one too few", root, l[place], slices.Delete(copied(p), i, i+1))
				refused("cut off", root, l[place], p[:i])
				refused("one twice", root, l[place], slices.Insert(copied(p), i, p[i]))
				if i > 0 {
					refused("the other way", root, l[place], with(with(p, i, p[i-1]), i-1, p[i]))
				}
			}
		}
	}
}

// P6.8: of all roots, numbers, places, leaves and proofs only what belongs together is right.
func TestOnlyWhatIsMadeIsRight(t *testing.T) {
	const most = 9
	all := leavesOf(most)
	var proofs [][][]byte
	for n := 1; n <= most; n++ {
		for place := range n {
			proofs = append(proofs, proofFor(t, all[:n], place))
		}
	}
	right := 0
	for of := 1; of <= most; of++ {
		root := rootFor(t, all[:of])
		for n := 1; n <= most+1; n++ {
			for place := range n {
				for i, leaf := range all {
					for _, p := range proofs {
						want := n == of && i == place && alike(p, proofOf(levels(all[:n]), place))
						e := merkle.Check(root, n, place, leaf, p)
						if want != (e == api.OK) || !want && e != api.ErrProof {
							t.Fatalf("root of %d: the leaf %d at the place %d of %d by %x: error %d", of, i, place, n, p, e)
						}
						if want {
							right++
						}
					}
				}
			}
		}
	}
	if right < most*(most+1)/2 {
		t.Errorf("only %d were right", right)
	}
}

// P6.8: tops of parts pass for no leaves.
func TestPartsAreNoLeaves(t *testing.T) {
	l := leavesOf(8)
	root, tree := rootFor(t, l), levels(l)
	for up, row := range tree[1:] {
		var tops [][]byte
		for _, p := range row {
			tops = append(tops, p.top)
		}
		for place, top := range tops {
			p := proofFor(t, l, place<<(up+1))[up+1:]
			for n := 1; n <= 8; n++ {
				if place < n && merkle.Check(root, n, place, top, p) != api.ErrProof {
					t.Fatalf("a part of %d leaves passes for one of %d", 2<<up, n)
				}
			}
		}
		for n := 1; n <= 8; n++ {
			if len(tops) <= n && merkle.CheckRange(root, n, 0, tops, nil) != api.ErrProof {
				t.Fatalf("parts of %d leaves pass for leaves", 2<<up)
			}
		}
	}
}

// P6.8: leaves that are the same ones may stand for each other.
func TestLeavesThatAreTheSame(t *testing.T) {
	one := leavesOf(1)[0]
	for n := 1; n <= 9; n++ {
		l := make([][]byte, n)
		for i := range l {
			l[i] = one
		}
		root := rootFor(t, l)
		for place := range n {
			for from := range n {
				p := proofFor(t, l, from)
				want := api.ErrProof
				if alike(p, proofFor(t, l, place)) {
					want = api.OK
				}
				if e := merkle.Check(root, n, place, one, p); e != want {
					t.Errorf("the proof of the place %d of %d at the place %d: error %d, not %d", from, n, place, e, want)
				}
			}
		}
	}
}
