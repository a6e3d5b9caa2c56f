package merkle

import (
	"bytes"
	"math/bits"
	"slices"

	"imprimatur/sha2"
)

// The first bytes of what is digested: none of the three kinds can pass for another one.
const (
	ofLeaf byte = iota
	ofHalves
	ofRoot
)

const (
	digestSize = 32
	countSize  = 8
)

// digest is the Sha256 of a first byte and the pieces behind it.
func digest(first byte, pieces ...[]byte) []byte {
	d, _ := sha2.Sum256(slices.Concat([]byte{first}, slices.Concat(pieces...))) // no error: a chunk and a count are the most
	return d
}

// digests tells whether all pieces of some lists are as long as digests.
func digests(lists ...[][]byte) bool {
	all := true
looking:
	for _, l := range lists {
		for _, b := range l {
			if len(b) != digestSize {
				all = false
				break looking
			}
		}
	}
	return all
}

// count is a number's 8 bytes, the greatest first.
func count(n int) []byte {
	b := make([]byte, countSize)
	for i := range b {
		b[countSize-1-i] = byte(n)
		n >>= 8
	}
	return b
}

// half is how many of n leaves, 2 at least, the first half has.
func half(n int) int {
	return 1 << (bits.Len(uint(n-1)) - 1)
}

// joined is the top over two halves' tops.
func joined(first, second []byte) []byte {
	return digest(ofHalves, first, second)
}

// top is the top of leaves; of none it has no bytes.
func top(leaves [][]byte) []byte {
	switch n := len(leaves); n {
	case 0:
		return nil
	case 1:
		return bytes.Clone(leaves[0]) // tops are handed out
	default:
		k := half(n)
		return joined(top(leaves[:k]), top(leaves[k:]))
	}
}

// sealed is the root of n leaves that have a top.
func sealed(n int, top []byte) []byte {
	return digest(ofRoot, count(n), top)
}
