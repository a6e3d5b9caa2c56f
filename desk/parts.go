package desk

import (
	"math"
	"strconv"
	"strings"
)

// none stands for no bytes, and for no bits.
const none = "-"

const digits = "0123456789abcdef"

// parts are a line's words, which are read one by one.
type parts struct {
	left  []string
	wrong bool // a word was not there, or is not what it must be
}

// done tells whether all words were read, and each was what it must be.
func (p *parts) done() bool {
	return !p.wrong && len(p.left) == 0
}

// word is the next word; if none is left, an empty one, which stands for nothing.
func (p *parts) word() string {
	if len(p.left) == 0 {
		return ""
	}
	w := p.left[0]
	p.left = p.left[1:]
	return w
}

// number is the next word's number.
func (p *parts) number() int64 {
	return p.from(math.MinInt64, math.MaxInt64)
}

// from is the next word's number, which is within bounds. There is one text of each number, so another one (of +1, 01, -0) is none.
func (p *parts) from(low, high int64) int64 {
	w := p.word()
	n, e := strconv.ParseInt(w, 10, 64)
	if e != nil || strconv.FormatInt(n, 10) != w || n < low || n > high {
		p.wrong = true
	}
	return n
}

// numbers are those of all words that are left.
func (p *parts) numbers() []int64 {
	var l []int64
	for len(p.left) > 0 {
		l = append(l, p.number())
	}
	return l
}

// seeds are those of all words that are left.
func (p *parts) seeds() [][]byte {
	var l [][]byte
	for len(p.left) > 0 {
		s := make([]byte, seedSize)
		s[0] = byte(p.from(0, math.MaxUint8))
		l = append(l, s)
	}
	return l
}

// bytes are those of the next word.
func (p *parts) bytes() []byte {
	w := p.word()
	if w == none {
		return nil
	}
	if w == "" || len(w)%2 != 0 {
		p.wrong = true
		return nil
	}
	b := make([]byte, len(w)/2)
	for i := range b {
		b[i] = p.digit(w[2*i])<<4 | p.digit(w[2*i+1])
	}
	return b
}

// digit is what a digit stands for.
func (p *parts) digit(c byte) byte {
	at := strings.IndexByte(digits, c)
	if at < 0 {
		p.wrong = true
		return 0
	}
	return byte(at)
}

// bits are those of the next word.
func (p *parts) bits() []bool {
	w := p.word()
	if w == none {
		return nil
	}
	if strings.Trim(w, "01") != "" || w == "" {
		p.wrong = true
		return nil
	}
	b := make([]bool, len(w))
	for i := range b {
		b[i] = w[i] == '1'
	}
	return b
}

// told is a word, and numbers behind it.
func told(word string, numbers ...int64) string {
	b := []byte(word)
	for _, n := range numbers {
		b = strconv.AppendInt(append(b, ' '), n, 10)
	}
	return string(b)
}

// hex are bytes by their digits.
func hex(b []byte) string {
	if len(b) == 0 {
		return none
	}
	var s strings.Builder
	for _, x := range b {
		s.WriteByte(digits[x>>4])
		s.WriteByte(digits[x&15])
	}
	return s.String()
}
