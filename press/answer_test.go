package press_test

import (
	"bytes"
	"math"
	"testing"

	"imprimatur/api"
	"imprimatur/merkle"
	"imprimatur/press"
	"imprimatur/updater"
	"imprimatur/wire"
)

// chunked is an edition of which only the chunks mean something.
func chunked(size int, chunk int64) press.Edition {
	b := make([]byte, size)
	for i := range b {
		b[i] = byte(i % 251)
	}
	return press.Edition{Bundle: b, Chunk: chunk}
}

// noChunk tells of a place that is not refused.
func noChunk(t *testing.T, what string, e press.Edition, place int) {
	t.Helper()
	b, errno := press.Chunk(e, place)
	bytesAnswered(t, what+": Chunk", b, errno, nil, api.ErrArg)
	b, errno = press.Answer(e, nil, updater.Want{Kind: aChunk, Version: 1, Place: place})
	bytesAnswered(t, what+": Answer", b, errno, nil, api.ErrArg)
}

// read are the chunk and the proof of a reply.
func read(t *testing.T, reply []byte) ([]byte, [][]byte) {
	t.Helper()
	v, _, e := wire.Read(reply, wire.Whole())
	done(t, e)
	f := wire.Open(v)
	chunk, l := f.Bytes(1, 1024), f.List(0, 12)
	var proof [][]byte
	for _, n := range l {
		proof = append(proof, n.Bytes)
	}
	if !f.Done() {
		t.Fatal("the reply is another list")
	}
	return chunk, proof
}

// P16.3: each chunk, and a proof of it by the root of them all.
func TestChunk(t *testing.T) {
	for _, size := range []int{1, 63, 64, 65, 128, 129, 1000, 4096, 4097} {
		for _, chunk := range []int64{64, 65, 1000, 1023, 1024} {
			x := chunked(size, chunk)
			n := chunks(x)
			root := must(merkle.Of(x.Bundle, chunk))
			var all []byte
			for place := range n {
				b, e := press.Chunk(x, place)
				bytesAnswered(t, "Chunk", b, e, replyOf(x, place), api.OK)
				c, proof := read(t, b)
				done(t, merkle.Check(root, n, place, must(merkle.Leaf(place, c)), proof))
				all = append(all, c...)
			}
			if !bytes.Equal(all, x.Bundle) {
				t.Errorf("%d bytes in chunks of %d: the chunks are others", size, chunk)
			}
			for _, place := range []int{-1, n, n + 1, math.MinInt, math.MaxInt, 1 << 32} {
				noChunk(t, "no such place", x, place)
			}
		}
	}
}

// P16.3: a bundle of one chunk, in bytes.
func TestChunkInBytes(t *testing.T) {
	b, e := press.Chunk(press.Edition{Bundle: []byte("abc"), Chunk: 64}, 0)
	bytesAnswered(t, "one chunk", b, e, []byte{3, 2, 2, 3, 97, 98, 99, 3, 0}, api.OK)
	two := press.Edition{Bundle: bytes.Repeat([]byte("a"), 65), Chunk: 64}
	b, e = press.Chunk(two, 1)
	bytesAnswered(t, "the second one of two", b, e, append([]byte{3, 2, 2, 1, 97, 3, 1, 2, 32}, must(merkle.Leaf(0, two.Bundle[:64]))...), api.OK)
}

// P16.3: of a published edition, and of the greatest bundle in the most chunks.
func TestChunksOfEditions(t *testing.T) {
	x := must(press.Publish(usual(1), four(1)))
	for place := range chunks(x) {
		b, e := press.Chunk(x, place)
		bytesAnswered(t, "Chunk", b, e, replyOf(x, place), api.OK)
	}
	vast := chunked(api.MaxBundle, 64)
	for _, place := range []int{0, 1, 1000, 1023, 1024, 2046, 2047} {
		b, e := press.Chunk(vast, place)
		bytesAnswered(t, "the greatest bundle", b, e, replyOf(vast, place), api.OK)
	}
	noChunk(t, "the greatest bundle", vast, 2048)
	vast.Chunk = 1024
	b, e := press.Chunk(vast, 127)
	bytesAnswered(t, "the greatest bundle, the greatest chunks", b, e, replyOf(vast, 127), api.OK)
	noChunk(t, "the greatest bundle, the greatest chunks", vast, 128)
}

// P16.3
func TestNoChunks(t *testing.T) {
	noChunk(t, "no edition", press.Edition{}, 0)
	noChunk(t, "no bundle", press.Edition{Chunk: 64}, 0)
	noChunk(t, "no bundle, but records", press.Edition{Stamp: []byte{1}, Snap: []byte{1}, Aim: []byte{1}, Chunk: 64}, 0)
	for _, c := range append([]int64{0, 1, 63, 1025, 1 << 32, most}, ends...) {
		noChunk(t, "no chunk size", chunked(100, c), 0)
		noChunk(t, "no chunk size, no place", chunked(100, c), -1)
	}
	for _, size := range []int{api.MaxBundle + 1, 1 << 20} {
		noChunk(t, "more than MaxBundle bytes", chunked(size, 64), 0)
		noChunk(t, "more than MaxBundle bytes", chunked(size, 1024), 0)
	}
}

// answers tells of a want that is answered by another one of some bytes.
func answers(t *testing.T, what string, e press.Edition, roots [][]byte, w updater.Want, want []byte) {
	t.Helper()
	b, errno := press.Answer(e, roots, w)
	bytesAnswered(t, what+": Answer", b, errno, want, api.OK)
}

// P16.3
func TestAnswer(t *testing.T) {
	x := must(press.Publish(usual(1), four(1)))
	roots := rootsBehind(3)
	for _, v := range append([]int64{0, 1, 2, 7, most}, ends...) { // the version that is wanted tells nothing but which root
		for _, place := range []int{0, 3, -1, math.MinInt, math.MaxInt} {
			answers(t, "the timestamp", x, roots, updater.Want{Kind: aTimestamp, Version: v, Place: place}, x.Stamp)
			answers(t, "the snapshot", x, roots, updater.Want{Kind: aSnapshot, Version: v, Place: place}, x.Snap)
			answers(t, "the targets record", x, roots, updater.Want{Kind: aTargets, Version: v, Place: place}, x.Aim)
		}
		for place := range chunks(x) {
			answers(t, "a chunk", x, roots, updater.Want{Kind: aChunk, Version: v, Place: place}, replyOf(x, place))
		}
		noChunk(t, "behind the last chunk", x, chunks(x))
	}
	for kind := aTimestamp; kind <= aTargets; kind++ {
		answers(t, "no edition", press.Edition{}, nil, updater.Want{Kind: kind}, nil)
	}
}

// P16.3: the root of a version is the one at the place of its version less 2.
func TestAnswerRoots(t *testing.T) {
	roots := append(rootsBehind(3), nil, []byte("no root"))
	for _, e := range []press.Edition{{}, must(press.Publish(usual(1), four(1)))} {
		for i, b := range roots {
			for _, place := range []int{0, 1, -1, math.MaxInt} {
				answers(t, "a root", e, roots, updater.Want{Kind: aRoot, Version: int64(i) + 2, Place: place}, b)
			}
		}
		for _, v := range append([]int64{0, 1, 7, 8, 1 << 32, 1<<32 + 2, most}, ends...) {
			answers(t, "no such root", e, roots, updater.Want{Kind: aRoot, Version: v}, nil)
		}
		for _, v := range append([]int64{0, 1, 2, 3, most}, ends...) {
			answers(t, "no roots", e, nil, updater.Want{Kind: aRoot, Version: v}, nil)
		}
	}
}

// P16.3: the example, and other Kinds that there are not.
func TestAnswerNoKind(t *testing.T) {
	x := must(press.Publish(usual(1), four(1)))
	for _, kind := range []int{nothing, aChunk + 1, aChunk + 2, 256 + aRoot, 1<<32 + aRoot, -1, -aRoot, math.MinInt, math.MinInt + aRoot, math.MaxInt} {
		for _, w := range []updater.Want{{Kind: kind}, {Kind: kind, Version: 2, Place: 1}} {
			b, e := press.Answer(x, rootsBehind(2), w)
			bytesAnswered(t, "no such Kind", b, e, nil, api.ErrArg)
		}
	}
}
