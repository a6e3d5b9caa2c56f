package merkle

import (
	"imprimatur/api"
)

// span is places: from the first one up to the one behind the last.
type span struct {
	from, to int
}

// apart tells whether two spans have no place in common.
func (s span) apart(r span) bool {
	return s.to <= r.from || s.from >= r.to
}

// within tells whether all places of a span are in another one.
func (s span) within(r span) bool {
	return s.from >= r.from && s.to <= r.to
}

// halves are the two halves of a part of the tree.
func (s span) halves() (span, span) {
	mid := s.from + half(s.to-s.from)
	return span{s.from, mid}, span{mid, s.to}
}

// beside are the parts of a tree of n leaves that are apart from a span, each as great as may be, in order.
func beside(n int, s span) []span {
	var l []span
	var down func(part span)
	down = func(part span) {
		switch {
		case part.apart(s):
			l = append(l, part)
		case !part.within(s):
			first, second := part.halves()
			down(first)
			down(second)
		}
	}
	down(span{0, n})
	return l
}

// topWith is the top of n leaves of which those of a span are known, and the tops of the parts beside it.
func topWith(n int, s span, leaves, tops [][]byte) []byte {
	var up func(part span) []byte
	up = func(part span) []byte {
		switch {
		case part.apart(s):
			t := tops[0]
			tops = tops[1:]
			return t
		case part.within(s):
			return top(leaves[part.from-s.from : part.to-s.from])
		}
		first, second := part.halves()
		t := up(first) // ahead of the second half: the tops stand in this order
		return joined(t, up(second))
	}
	return up(span{0, n})
}

// ProveRange is the proof of a range of leaves.
func ProveRange(leaves [][]byte, from, to int) ([][]byte, api.Errno) {
	if e := refused(leaves); e != api.OK {
		return nil, e
	}
	if from < 0 || from >= to || to > len(leaves) {
		return nil, api.ErrArg
	}
	var proof [][]byte
	for _, part := range beside(len(leaves), span{from, to}) {
		proof = append(proof, top(leaves[part.from:part.to]))
	}
	return proof, api.OK
}

// CheckRange tells whether the proof of a range is right.
func CheckRange(root []byte, n, from int, leaves [][]byte, proof [][]byte) api.Errno {
	if n < 1 || n > api.MaxLeaves || len(leaves) == 0 || from < 0 || from > n-len(leaves) {
		return api.ErrArg
	}
	if !digests([][]byte{root}, leaves, proof) {
		return api.ErrArg
	}
	s := span{from, from + len(leaves)}
	if len(proof) != len(beside(n, s)) {
		return api.ErrProof
	}
	return compared(root, n, topWith(n, s, leaves, proof))
}
