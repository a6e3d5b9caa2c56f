package words_test

import (
	"bytes"
	"fmt"
	"math/rand"
	"slices"
	"strings"
	"testing"

	"imprimatur/api"
	"imprimatur/words"
)

// maxText is how many bytes may be handed in.
const maxText = 1 << 14

// cutOf is what a text is cut into.
func cutOf(t *testing.T, text []byte) []string {
	t.Helper()
	l, e := words.Cut(text)
	if e != api.OK {
		t.Fatalf("Cut of %q: error %d", text, e)
	}
	return textsOf(l)
}

// textsOf are rows of bytes as texts.
func textsOf(l [][]byte) []string {
	texts := []string{}
	for _, b := range l {
		texts = append(texts, string(b))
	}
	return texts
}

// cuts tells of a text that has other words.
func cuts(t *testing.T, text string, want ...string) {
	t.Helper()
	if got := cutOf(t, []byte(text)); !slices.Equal(got, want) {
		t.Errorf("Cut of %q: %q, not %q", text, got, want)
	}
}

// countsOf is how often words stand in texts.
func countsOf(t *testing.T, texts ...[]byte) []words.Count {
	t.Helper()
	l, e := words.Counts(texts...)
	if e != api.OK {
		t.Fatalf("Counts of %q: error %d", texts, e)
	}
	return l
}

// told is counts in words.
func told(l []words.Count) string {
	s := []string{}
	for _, c := range l {
		s = append(s, fmt.Sprintf("%q %d", c.Word, c.N))
	}
	return strings.Join(s, ", ")
}

// sameCounts tells whether counts are.
func sameCounts(l, m []words.Count) bool {
	return slices.EqualFunc(l, m, func(a, b words.Count) bool { return bytes.Equal(a.Word, b.Word) && a.N == b.N })
}

// pieces are what texts of chance are made of: signs of each kind, blanks above all, and bytes that may be part of a sign.
func pieces() []string {
	return []string{
		" ", " ", " ", "\n", "\t", "\r", "a", "Z", "1", "9", "!", "\x00", "\x7F", "é", "€", "\U0001F600", "\uFFFD",
		"\xFF", "\x80", "\xC3", "\xE2\x82", "\xF0\x9F", "\xED\xA0\x80", "\xC0\x80", "\xF4\x90\x80\x80",
	}
}

// textOf is a text of chance of so many pieces.
func textOf(r *rand.Rand, n int) []byte {
	var b []byte
	all := pieces()
	for range n {
		b = append(b, strings.Repeat(all[r.Intn(len(all))], 1+r.Intn(4)*r.Intn(2))...)
	}
	return b
}
