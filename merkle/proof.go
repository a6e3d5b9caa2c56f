package merkle

import (
	"bytes"

	"imprimatur/api"
)

// Prove is the proof of a leaf.
func Prove(leaves [][]byte, place int) ([][]byte, api.Errno) {
	if e := refused(leaves); e != api.OK {
		return nil, e
	}
	if place < 0 || place >= len(leaves) {
		return nil, api.ErrArg
	}
	var proof [][]byte
	var down func(part [][]byte, place int)
	down = func(part [][]byte, place int) {
		if len(part) == 1 {
			return
		}
		// The top of the other half comes behind all that is nearer to the leaf.
		if k := half(len(part)); place < k {
			down(part[:k], place)
			proof = append(proof, top(part[k:]))
		} else {
			down(part[k:], place-k)
			proof = append(proof, top(part[:k]))
		}
	}
	down(leaves, place)
	return proof, api.OK
}

// Check tells whether a proof is right.
func Check(root []byte, n, place int, leaf []byte, proof [][]byte) api.Errno {
	if n < 1 || n > api.MaxLeaves || place < 0 || place >= n || !digests([][]byte{root, leaf}, proof) {
		return api.ErrArg
	}
	way := wayTo(n, place)
	if len(proof) != len(way) {
		return api.ErrProof
	}
	top := leaf
	for i, beside := range proof {
		if inSecond := way[len(way)-1-i]; inSecond { // the way goes down, the proof up
			top = joined(beside, top)
		} else {
			top = joined(top, beside)
		}
	}
	return compared(root, n, top)
}

// wayTo tells, from the top of n leaves down to a place, for each part of more than one leaf whether it is in the second half.
func wayTo(n, place int) []bool {
	var way []bool
	for n > 1 {
		k := half(n)
		second := place >= k
		if second {
			n, place = n-k, place-k
		} else {
			n = k
		}
		way = append(way, second)
	}
	return way
}

// compared tells whether a root is that of n leaves with this top.
func compared(root []byte, n int, top []byte) api.Errno {
	if !bytes.Equal(root, sealed(n, top)) {
		return api.ErrProof
	}
	return api.OK
}
