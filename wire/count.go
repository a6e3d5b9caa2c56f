package wire

import (
	"math/bits"

	"imprimatur/api"
)

// First bytes of counts: below the least long one a count is that byte; from it on to the most long one they tell how many bytes follow.
const (
	leastLong = 192
	mostLong  = leastLong + 7
)

// Count is a count's bytes.
func Count(n uint64) []byte {
	if n < leastLong {
		return []byte{byte(n)}
	}
	size := (bits.Len64(n) + 7) / 8
	b := make([]byte, 1+size)
	b[0] = byte(leastLong + size - 1)
	for i := size; i > 0; i-- {
		b[i] = byte(n)
		n >>= 8
	}
	return b
}

// ReadCount is the count that stands at a place, and the place behind it.
func ReadCount(b []byte, at int) (uint64, int, api.Errno) {
	if at < 0 || at > len(b) {
		return 0, 0, api.ErrArg
	}
	left := b[at:]
	if noCount(left) {
		return 0, at, api.ErrForm
	}
	size := countSize(left)
	if len(left) < size {
		return 0, at, api.ErrShort
	}
	if size == 1 {
		return uint64(left[0]), at + 1, api.OK
	}
	n := uint64(0)
	for _, x := range left[1:size] {
		n = n<<8 | uint64(x)
	}
	return n, at + size, api.OK
}

// noCount tells whether no count's bytes begin as these do: each count is written in one way, the shortest.
func noCount(b []byte) bool {
	switch {
	case len(b) == 0 || b[0] < leastLong:
		return false
	case b[0] > mostLong:
		return true
	case len(b) == 1:
		return false
	}
	return b[1] == 0 || b[0] == leastLong && b[1] < leastLong
}

// countSize is how many bytes a count has that begins as these do.
func countSize(b []byte) int {
	if len(b) == 0 || b[0] < leastLong {
		return 1
	}
	return int(b[0]) - leastLong + 2
}
