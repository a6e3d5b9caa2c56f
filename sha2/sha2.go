// Package sha2 is layer 2: it reckons digests, Sha256 and Sha512, of a text at once or piece by piece.
package sha2

import (
	"imprimatur/api"
)

const (
	bits256 = 256
	bits512 = 512
)

// Hash is a digest that is made piece by piece. One that New did not make is as a nil one.
type Hash struct {
	bits  int
	count int       // bytes of the text
	words [8]uint64 // the eight words behind the whole blocks of the text
	rest  [128]byte // begins with the bytes of the text behind them
}

// known tells whether there is a digest by so many bits.
func known(bits int) bool {
	return bits == bits256 || bits == bits512
}

// blockSize is how many bytes a block has.
func blockSize(bits int) int {
	return bits / 4
}

// digestSize is how many bytes a digest has.
func digestSize(bits int) int {
	return bits / 8
}

// Pad is the padding of a text of n bytes.
func Pad(n, bits int) ([]byte, api.Errno) {
	if !known(bits) || n < 0 {
		return nil, api.ErrArg
	}
	if n > api.MaxHash {
		return nil, api.ErrLong
	}
	block := blockSize(bits)
	size := block - n%block
	if size < 1+block/8 { // no room for the first byte and the text's length
		size += block
	}
	p := make([]byte, size)
	p[0] = 128
	for i, left := size-1, 8*n; left > 0; i-- {
		p[i] = byte(left)
		left >>= 8
	}
	return p, api.OK
}

// New is a hash without a text.
func New(bits int) (*Hash, api.Errno) {
	if !known(bits) {
		return nil, api.ErrArg
	}
	h := &Hash{bits: bits}
	h.Reset()
	return h, api.OK
}

// none tells whether there is no hash.
func (h *Hash) none() bool {
	return h == nil || h.bits == 0
}

// Reset empties its text.
func (h *Hash) Reset() {
	if h.none() {
		return
	}
	k := kindOf(h.bits)
	*h = Hash{bits: h.bits}
	for i := range h.words {
		h.words[i] = starts[i] >> (64 - k.width)
	}
}

// Write puts a piece to its text.
func (h *Hash) Write(b []byte) api.Errno {
	if h.none() {
		return api.ErrNil
	}
	if len(b) > api.MaxHash-h.count {
		return api.ErrLong
	}
	h.put(b)
	return api.OK
}

// put puts bytes to the text, however long it becomes: a padding may go beyond MaxHash.
func (h *Hash) put(b []byte) {
	block := blockSize(h.bits)
	for len(b) > 0 {
		at := h.count % block
		n := copy(h.rest[at:block], b)
		h.count += n
		b = b[n:]
		if at+n == block {
			h.mix(h.rest[:block])
		}
	}
}

// mix puts a whole block to the eight words.
func (h *Hash) mix(block []byte) {
	k := kindOf(h.bits)
	if h.bits == bits256 {
		h.words = behind[uint32](k, h.words, block)
	} else {
		h.words = behind[uint64](k, h.words, block)
	}
}

// Copy is a hash of its own.
func (h *Hash) Copy() *Hash {
	if h.none() {
		return nil
	}
	c := *h
	return &c
}

// Sum is the digest of its text.
func (h *Hash) Sum() []byte {
	if h.none() {
		return nil
	}
	p, _ := Pad(h.count, h.bits) // no error: the bits are right and the text is never too long
	// The padding goes to a copy: the text stays as it is.
	c := h.Copy()
	c.put(p)
	return c.digest()
}

// digest is the eight words' bytes, the greatest first.
func (h *Hash) digest() []byte {
	b := make([]byte, digestSize(h.bits))
	size := len(b) / len(h.words)
	for i, x := range h.words {
		for j := size - 1; j >= 0; j-- {
			b[i*size+j] = byte(x)
			x >>= 8
		}
	}
	return b
}

// Size is how many bytes its digest has.
func (h *Hash) Size() int {
	if h.none() {
		return 0
	}
	return digestSize(h.bits)
}

// Count is how many bytes its text has.
func (h *Hash) Count() int {
	if h.none() {
		return 0
	}
	return h.count
}

// Sum256 is a text's Sha256.
func Sum256(b []byte) ([]byte, api.Errno) {
	return sum(b, bits256)
}

// Sum512 is a text's Sha512.
func Sum512(b []byte) ([]byte, api.Errno) {
	return sum(b, bits512)
}

// sum is a text's digest.
func sum(b []byte, bits int) ([]byte, api.Errno) {
	h, e := New(bits)
	if e != api.OK {
		return nil, e
	}
	if e := h.Write(b); e != api.OK {
		return nil, e
	}
	return h.Sum(), api.OK
}
