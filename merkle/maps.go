package merkle

import (
	"bytes"

	"imprimatur/api"
)

// places is how many chunks a byte of a map tells of.
const places = 8

// counted tells whether there may be a map of so many chunks.
func counted(n int) bool {
	return n >= 0 && n <= api.MaxLeaves
}

// mapSize is how many bytes a map has.
func mapSize(n int) int {
	return (n + places - 1) / places
}

// bit is the byte in which only a place's binary digit is 1.
func bit(place int) byte {
	return 1 << (place % places)
}

// marked tells whether a place's binary digit is 1.
func marked(m []byte, place int) bool {
	return m[place/places]&bit(place) != 0
}

// Empty is a map without any chunk.
func Empty(n int) ([]byte, api.Errno) {
	if !counted(n) {
		return nil, api.ErrArg
	}
	return make([]byte, mapSize(n)), api.OK
}

// Right tells whether a map is right.
func Right(m []byte, n int) bool {
	if !counted(n) || len(m) != mapSize(n) {
		return false
	}
	for above := n; above < len(m)*places; above++ {
		if marked(m, above) {
			return false
		}
	}
	return true
}

// holds tells whether a map is right and has such a place.
func holds(m []byte, n, place int) bool {
	return Right(m, n) && place >= 0 && place < n
}

// Put is a map with a chunk more.
func Put(m []byte, n, place int) ([]byte, api.Errno) {
	if !holds(m, n, place) {
		return nil, api.ErrArg
	}
	m = bytes.Clone(m)
	m[place/places] |= bit(place)
	return m, api.OK
}

// Has tells whether a chunk is there.
func Has(m []byte, n, place int) bool {
	return holds(m, n, place) && marked(m, place)
}

// Missing is the first place that is not there.
func Missing(m []byte, n int) int {
	if !Right(m, n) {
		return -1
	}
	for place := range n {
		if !marked(m, place) {
			return place
		}
	}
	return n
}
