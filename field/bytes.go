package field

import (
	"imprimatur/api"
)

// wordsOf is the words of a number of at most 64 bytes.
func wordsOf(b []byte) [8]uint64 {
	var w [8]uint64
	for i, y := range b {
		w[i/8] |= uint64(y) << (i % 8 * 8)
	}
	return w
}

// bytesOf is the bytes of a number of four words.
func bytesOf(w [4]uint64) []byte {
	b := make([]byte, size)
	for i := range b {
		b[i] = byte(w[i/8] >> (i % 8 * 8))
	}
	return b
}

// Decode is the element of bytes.
func Decode(b []byte) (api.Elem, api.Errno) {
	if len(b) != size {
		return api.Elem{}, api.ErrArg
	}
	w := wordsOf(b)
	a := api.Elem{ // its last limb has the 256th digit, too
		w[0] & low,
		(w[0]>>51 | w[1]<<13) & low,
		(w[1]>>38 | w[2]<<26) & low,
		(w[2]>>25 | w[3]<<39) & low,
		w[3] >> 12,
	}
	if a != Reduce(a) {
		return api.Elem{}, api.ErrField
	}
	return a, api.OK
}

// Encode is an element's bytes.
func Encode(a api.Elem) []byte {
	a = Reduce(a)
	return bytesOf([4]uint64{
		a[0] | a[1]<<51,
		a[1]>>13 | a[2]<<38,
		a[2]>>26 | a[3]<<25,
		a[3]>>39 | a[4]<<12,
	})
}
