package words

import (
	"bytes"
	"iter"

	"imprimatur/api"
)

// mostDigits is how many digits a run has at most.
const mostDigits = 3

// Cut are a text's words.
func Cut(text []byte) ([][]byte, api.Errno) {
	if len(text) > api.MaxText {
		return nil, api.ErrLong
	}
	var l [][]byte
	for w := range wordsOf(text) {
		l = append(l, bytes.Clone(w))
	}
	return l, api.OK
}

// wordsOf tells a text's words, which are pieces of it.
func wordsOf(text []byte) iter.Seq[[]byte] {
	return func(yield func([]byte) bool) {
		for at := 0; at < len(text); {
			n := word(text[at:])
			if !yield(text[at : at+n]) {
				return
			}
			at += n
		}
	}
}

// word is how many bytes the word has that a text, which has some, begins with.
func word(text []byte) int {
	if text[0] == ' ' && led(text[1:]) {
		return 1 + run(text[1:])
	}
	n := run(text)
	if n > 1 && text[n-1] == ' ' && led(text[n:]) { // only a run of blanks ends so
		return n - 1
	}
	return n
}

// led tells whether a text begins with a sign that takes a byte 32 ahead of it into its word.
func led(text []byte) bool {
	kind, _ := Kind(text)
	return kind == letter || kind == digit || kind == other
}

// run is how many bytes the run has that a text, which has some, begins with.
func run(text []byte) int {
	next := signs(text)
	kind, n := next()
	for many := 1; many < most(kind, len(text)); many++ {
		k, size := next()
		if k != kind {
			break
		}
		n += size
	}
	return n
}

// most is how many signs of a kind a run has at most, in a text of so many bytes.
func most(kind, size int) int {
	switch kind {
	case broken:
		return 1
	case digit:
		return mostDigits
	}
	return size
}

// signs takes a text's signs, one by one: each call goes on to the next one, and tells its kind and how many bytes it has.
func signs(text []byte) func() (int, int) {
	at := 0
	return func() (int, int) {
		kind, n := Kind(text[at:])
		at += n
		return kind, n
	}
}
