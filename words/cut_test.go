package words_test

import (
	"bytes"
	"math/rand"
	"slices"
	"strings"
	"testing"

	"imprimatur/api"
	"imprimatur/words"
)

// P18.1
func TestCut(t *testing.T) {
	cuts(t, "")
	cuts(t, "ab 12345!", "ab", " 123", "45", "!")
	cuts(t, "  a", " ", " a")
	cuts(t, "The cat, 2 dogs.", "The", " cat", ",", " 2", " dogs", ".")
	cuts(t, "don't", "don", "'", "t")
	cuts(t, "aZ09", "aZ", "09")
	cuts(t, "naïve €5 日本語", "naïve", " €", "5", " 日本語")
	cuts(t, "f(x)!= \x00\x7F", "f", "(", "x", ")!=", " \x00\x7F")
}

// P18.1: of digits at most three.
func TestCutDigits(t *testing.T) {
	cuts(t, "1", "1")
	cuts(t, "123", "123")
	cuts(t, "1234", "123", "4")
	cuts(t, "1234567", "123", "456", "7")
	cuts(t, " 123", " 123")
	cuts(t, " 1234", " 123", "4")
	cuts(t, " 12345678 9", " 123", "456", "78", " 9")
}

// P18.1: a byte 32 goes with the word behind it, but no other blank does.
func TestCutBlanks(t *testing.T) {
	cuts(t, " ", " ")
	cuts(t, "   ", "   ")
	cuts(t, "\n", "\n")
	cuts(t, " a", " a")
	cuts(t, " !", " !")
	cuts(t, " 1", " 1")
	cuts(t, " é", " é")
	cuts(t, "    a", "   ", " a")
	cuts(t, "a ", "a", " ")
	cuts(t, "a  ", "a", "  ")
	cuts(t, "\na", "\n", "a")
	cuts(t, "\ta b", "\t", "a", " b")
	cuts(t, "\r\na", "\r\n", "a")
	cuts(t, "\n a", "\n", " a")
	cuts(t, " \na", " \n", "a")
	cuts(t, " \n 1", " \n", " 1")
	cuts(t, "a \n\t !", "a", " \n\t", " !")
	cuts(t, "\v\fa", "\v\f", "a")
}

// P18.1: a broken byte is a word by itself, which no blank goes with.
func TestCutBrokenOnes(t *testing.T) {
	cuts(t, "\xFF", "\xFF")
	cuts(t, "\xFF\xFF", "\xFF", "\xFF")
	cuts(t, "a\xFFb", "a", "\xFF", "b")
	cuts(t, " \xFF", " ", "\xFF")
	cuts(t, "  \xFF", "  ", "\xFF")
	cuts(t, " \xFF a", " ", "\xFF", " a")
	cuts(t, "\xE2\x82", "\xE2", "\x82")
	cuts(t, "a\xE2\x82\xAC\x82", "a\xE2\x82\xAC", "\x82")
	cuts(t, "\xED\xA0\x80", "\xED", "\xA0", "\x80")
	cuts(t, " \xE2\x82 ", " ", "\xE2", "\x82", " ")
	cuts(t, "\n \x80", "\n ", "\x80")
	cuts(t, "\uFFFD\uFFFD\xFF", "\uFFFD\uFFFD", "\xFF")
}

// P18.1: all short texts of signs of all kinds, against the chapter's words.
func TestCutAllShortTexts(t *testing.T) {
	signs := []string{"a", "é", "7", " ", "\n", "!", "\xC3"}
	texts := []string{""}
	for range 6 {
		var more []string
		for _, text := range texts {
			for _, s := range signs {
				more = append(more, text+s)
			}
		}
		for _, text := range more {
			if got, want := cutOf(t, []byte(text)), modelCut([]byte(text)); !slices.Equal(got, want) {
				t.Fatalf("Cut of %q: %q, not %q", text, got, want)
			}
		}
		texts = more
	}
}

// P18.1: texts of chance, against the chapter's words.
func TestCutOfChance(t *testing.T) {
	r := rand.New(rand.NewSource(2))
	for range 20000 {
		text := textOf(r, r.Intn(12))
		if got, want := cutOf(t, text), modelCut(text); !slices.Equal(got, want) {
			t.Fatalf("Cut of %q: %q, not %q", text, got, want)
		}
	}
}

// P18.1: at most MaxText bytes.
func TestCutLong(t *testing.T) {
	for _, piece := range []string{"a", "1", " ", "\n", "!", "\xFF", "a ", " a", "é", "\xE2\x82"} {
		text := []byte(strings.Repeat(piece, maxText))[:maxText]
		if got, want := cutOf(t, text), modelCut(text); !slices.Equal(got, want) {
			t.Errorf("Cut of %d bytes of %q: %d words, not %d", len(text), piece, len(got), len(want))
		}
		for _, n := range []int{maxText + 1, maxText + 2, 1 << 17} {
			text = []byte(strings.Repeat(piece, n))[:n]
			if l, e := words.Cut(text); e != api.ErrLong || len(l) != 0 {
				t.Errorf("Cut of %d bytes: %d words and error %d", n, len(l), e)
			}
		}
	}
	text := append(bytes.Repeat([]byte(" "), maxText-1), 'a')
	if got := cutOf(t, text); len(got) != 2 || got[1] != " a" {
		t.Errorf("Cut of many blanks and a letter: %d words", len(got))
	}
}
