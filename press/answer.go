package press

import (
	"bytes"

	"imprimatur/api"
	"imprimatur/merkle"
	"imprimatur/updater"
	"imprimatur/wire"
)

// Kinds of what an updater wants. Of nothing there is no reply.
const (
	wantRoot = 1 + iota
	wantTimestamp
	wantSnapshot
	wantTargets
	wantChunk
)

// firstRoot is the version of the first root behind the pinned one.
const firstRoot = 2

// Chunk is the reply of a chunk: it, and its proof.
func Chunk(e Edition, place int) ([]byte, api.Errno) {
	chunks, errno := merkle.Cut(e.Bundle, e.Chunk)
	if errno != api.OK || place < 0 || place >= len(chunks) {
		return nil, api.ErrArg
	}
	proof, _ := merkle.Prove(leavesOf(chunks), place) // no error: there is such a leaf, and a bundle has no more than a tree may have
	pieces := make([]api.Node, len(proof))
	for i, p := range proof {
		pieces[i] = wire.Bytes(p)
	}
	return wire.Write(wire.List(wire.Bytes(chunks[place]), wire.List(pieces...)), wire.Whole())
}

// leavesOf are the leaves of chunks.
func leavesOf(chunks [][]byte) [][]byte {
	leaves := make([][]byte, len(chunks))
	for i, c := range chunks {
		leaves[i], _ = merkle.Leaf(i, c) // no error: no chunk is longer than one may be
	}
	return leaves
}

// Answer is the reply to what is wanted, of an edition and the roots behind the pinned one.
func Answer(e Edition, roots [][]byte, w updater.Want) ([]byte, api.Errno) {
	switch w.Kind {
	case wantRoot:
		return rootOf(roots, w.Version), api.OK
	case wantTimestamp:
		return bytes.Clone(e.Stamp), api.OK
	case wantSnapshot:
		return bytes.Clone(e.Snap), api.OK
	case wantTargets:
		return bytes.Clone(e.Aim), api.OK
	case wantChunk:
		return Chunk(e, w.Place)
	default:
		return nil, api.ErrArg
	}
}

// rootOf is the root of a version; no bytes, if there is none.
func rootOf(roots [][]byte, version int64) []byte {
	if version < firstRoot || version-firstRoot >= int64(len(roots)) {
		return nil
	}
	return bytes.Clone(roots[version-firstRoot])
}
