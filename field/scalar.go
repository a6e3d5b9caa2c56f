package field

import (
	"math/bits"

	"imprimatur/api"
)

// maxFold is how many bytes a number may have that is folded.
const maxFold = 64

// order is L; all of it but its highest digit, the 253rd, stands in the first two words.
var order = [4]uint64{0x5812631a5cf5d3ed, 0x14def9dea2f79cd6, 0, 1 << 60}

// Scalar tells whether bytes are a scalar's.
func Scalar(b []byte) api.Errno {
	if len(b) != size {
		return api.ErrArg
	}
	w := wordsOf(b)
	if folded(w) != [4]uint64{w[0], w[1], w[2], w[3]} {
		return api.ErrScalar
	}
	return api.OK
}

// Fold is the scalar of a number.
func Fold(b []byte) ([]byte, api.Errno) {
	if len(b) > maxFold {
		return nil, api.ErrArg
	}
	return bytesOf(folded(wordsOf(b))), api.OK
}

// Times is the scalar of a product and a number more.
func Times(a, b, c []byte) ([]byte, api.Errno) {
	if max(len(a), len(b), len(c)) > size {
		return nil, api.ErrArg
	}
	return bytesOf(folded(product(wordsOf(a), wordsOf(b), wordsOf(c)))), api.OK
}

// product is x y + z; their upper four words are 0, so that it fits.
func product(x, y, z [8]uint64) [8]uint64 {
	for i := range 4 {
		var over uint64
		for j := range 4 {
			hi, lo := bits.Mul64(x[i], y[j])
			lo, c := bits.Add64(lo, over, 0)
			hi += c
			z[i+j], c = bits.Add64(lo, z[i+j], 0)
			over = hi + c
		}
		z[i+4] = over
	}
	return z
}

// folded is a number modulo L: from its highest 32 digits on, 32 more at a time.
func folded(w [8]uint64) [4]uint64 {
	var r [4]uint64
	for i := 15; i >= 0; i-- {
		piece := w[i/2] >> (i % 2 * 32) & (1<<32 - 1)
		r = pushed(r, piece)
	}
	return r
}

// pushed is r 2^32 + piece modulo L, r being below L and the piece below 2^32.
func pushed(r [4]uint64, piece uint64) [4]uint64 {
	const kept = 28 // so many binary digits of the last word stay below the 253rd, moved up by 32
	over := r[3] >> kept
	r[3] &= 1<<kept - 1
	for i := range 4 {
		r[i], piece = r[i]<<32|piece, r[i]>>32
	}
	return joined(r, over)
}

// joined is r + n 2^252 modulo L, r being below 2^252 and n at most 2^32.
func joined(r [4]uint64, n uint64) [4]uint64 {
	above := [4]uint64{order[0], order[1]} // 2^252 is worth 0 less this
	var over, borrow uint64
	for i := range 4 {
		hi, lo := bits.Mul64(n, above[i])
		lo, c := bits.Add64(lo, over, 0)
		over = hi + c
		r[i], borrow = bits.Sub64(r[i], lo, borrow)
	}
	if borrow == 0 {
		return r
	}
	var c uint64
	for i := range 4 {
		r[i], c = bits.Add64(r[i], order[i], c)
	}
	return r
}
