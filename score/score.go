// Package score is layer 1: it orders floating point numbers, tells which of them are scores, and puts them in order.
package score

import (
	"math"
	"slices"

	"imprimatur/api"
)

// Classes of numbers.
const (
	zero = iota
	zeroBelow
	subnormal
	normal
	infinite
	noNumber
)

// Parts of a number's bits, and the bits of the one NaN that is answered.
const (
	signBit  uint64 = 1 << 63
	exponent uint64 = 0x7FF << 52
	nanBits  uint64 = 0x7FF8000000000001
)

// Codes at the ends: those between the two infinities' are numbers', and the NaNs' lies apart.
const (
	leastCode uint64 = ^(signBit | exponent)
	mostCode  uint64 = signBit | exponent
	nanCode   uint64 = 1<<64 - 1
)

const (
	scoreBytes = 8
	mostSteps  = 1000
)

// Class is a number's class.
func Class(x float64) int {
	b := math.Float64bits(x)
	switch high := b & exponent; {
	case b == 0:
		return zero
	case b == signBit:
		return zeroBelow
	case high == 0:
		return subnormal
	case high != exponent:
		return normal
	case b&^signBit == exponent:
		return infinite
	}
	return noNumber
}

// Code is the number by which numbers stand in order.
func Code(x float64) uint64 {
	if Class(x) == noNumber {
		return nanCode
	}
	b := math.Float64bits(x)
	if b&signBit != 0 {
		return ^b
	}
	return b | signBit
}

// Back is the number of a code.
func Back(c uint64) (float64, api.Errno) {
	if c != nanCode && (c < leastCode || c > mostCode) {
		return 0, api.ErrArg
	}
	return number(c), api.OK
}

// number is the number of a code that is known to be one's.
func number(c uint64) float64 {
	switch {
	case c == nanCode:
		return math.Float64frombits(nanBits)
	case c&signBit == 0:
		return math.Float64frombits(^c)
	}
	return math.Float64frombits(c &^ signBit)
}

// Compare is 1 if a is above b, -1 if b is above a, else 0.
func Compare(a, b float64) int {
	c, d := Code(a), Code(b)
	switch {
	case c > d:
		return 1
	case c < d:
		return -1
	}
	return 0
}

// Valid tells whether a number is a score.
func Valid(x float64) bool {
	switch Class(x) {
	case zero, subnormal, normal:
		return true
	}
	return false
}

// Bytes are a score's 8 bytes, the greatest first.
func Bytes(x float64) ([]byte, api.Errno) {
	if !Valid(x) {
		return nil, api.ErrScore
	}
	l := make([]byte, scoreBytes)
	b := math.Float64bits(x)
	for i := range l {
		l[scoreBytes-1-i] = byte(b)
		b >>= 8
	}
	return l, api.OK
}

// Read is the score of 8 bytes.
func Read(b []byte) (float64, api.Errno) {
	if len(b) != scoreBytes {
		return 0, api.ErrArg
	}
	n := uint64(0)
	for _, x := range b {
		n = n<<8 | uint64(x)
	}
	x := math.Float64frombits(n)
	if !Valid(x) {
		return 0, api.ErrScore
	}
	return x, api.OK
}

// Next is the number just above one.
func Next(x float64) float64 {
	c := Code(x)
	if c >= mostCode {
		return number(nanCode)
	}
	return number(c + 1)
}

// Prev is the number just below one.
func Prev(x float64) float64 {
	switch c := Code(x); c {
	case nanCode:
		return number(mostCode)
	case leastCode:
		return number(leastCode)
	default:
		return number(c - 1)
	}
}

// Total is scores added up, from the first one on.
func Total(l []float64) (float64, api.Errno) {
	// No sum is the zero below: the first one is the zero, and only two zeros below add up to one.
	sum, e := 0.0, api.OK
adding:
	for _, x := range l {
		switch s := sum + x; {
		case !Valid(x), Class(s) == infinite:
			sum, e = 0, api.ErrScore
			break adding
		default:
			sum = s
		}
	}
	return sum, e
}

// Order is the places of numbers, those of the ones above others first.
func Order(l []float64) []int {
	places := make([]int, len(l))
	for i := range places {
		places[i] = i
	}
	slices.SortStableFunc(places, func(i, j int) int { return Compare(l[j], l[i]) })
	return places
}

// Falls tells whether no number is above the one ahead of it.
func Falls(l []float64) bool {
	for i := 1; i < len(l); i++ {
		if Compare(l[i], l[i-1]) > 0 {
			return false
		}
	}
	return true
}

// Mid is the number half way between two scores.
func Mid(a, b float64) (float64, api.Errno) {
	if !Valid(a) || !Valid(b) {
		return 0, api.ErrScore
	}
	c, d := inOrder(a, b)
	return number(c + (d-c)/2), api.OK
}

// Steps are n numbers between two scores, at codes that are as far from one another as may be.
func Steps(a, b float64, n int) ([]float64, api.Errno) {
	if !Valid(a) || !Valid(b) {
		return nil, api.ErrScore
	}
	if n < 1 || n > mostSteps {
		return nil, api.ErrArg
	}
	c, d := inOrder(a, b)
	// The distance times i may have more than 64 binary digits; what it leaves, times i, has not.
	parts := uint64(n) + 1
	part, left := (d-c)/parts, (d-c)%parts
	l := make([]float64, n)
	for k := range l {
		i := uint64(k) + 1
		l[k] = number(c + part*i + left*i/parts)
	}
	return l, api.OK
}

// inOrder is two numbers' codes, the lesser one first.
func inOrder(a, b float64) (uint64, uint64) {
	c, d := Code(a), Code(b)
	return min(c, d), max(c, d)
}
