package words_test

import (
	"bytes"
	"math/rand"
	"strings"
	"testing"

	"imprimatur/words"
)

// is tells of a text whose first sign is another one.
func is(t *testing.T, text string, kind, size int) {
	t.Helper()
	if k, n := words.Kind([]byte(text)); k != kind || n != size {
		t.Errorf("Kind of %q: %d and %d bytes, not %d and %d", text, k, n, kind, size)
	}
}

// P18.1
func TestKind(t *testing.T) {
	is(t, "", -1, 0)
	if k, n := words.Kind(nil); k != -1 || n != 0 {
		t.Errorf("Kind of nothing: %d and %d", k, n)
	}
	for _, behind := range []string{"", "a", "1", " ", "!", "\xFF", "\x80", "é", strings.Repeat("a", maxText)} {
		for b := range 128 {
			kind := 4
			switch {
			case b >= 'a' && b <= 'z', b >= 'A' && b <= 'Z':
				kind = 1
			case b >= '0' && b <= '9':
				kind = 2
			case b == 9, b == 10, b == 13, b == 32:
				kind = 3
			}
			is(t, string(rune(b))+behind, kind, 1)
		}
	}
}

// P18.1: all signs of more bytes than one, and the numbers that are no signs'.
func TestKindOfAllSigns(t *testing.T) {
	for sign := 128; sign <= 0x10FFFF; sign++ {
		text := written(sign)
		if text == nil {
			is(t, string([]byte{0xE0 | byte(sign>>12), 0x80 | byte(sign>>6&63), 0x80 | byte(sign&63)}), 0, 1)
			continue
		}
		is(t, string(text), 1, len(text))
		is(t, string(text[:len(text)-1]), 0, 1)
		is(t, string(text[1:]), 0, 1)
		is(t, string(text)+"\x80a", 1, len(text))
		is(t, string(text[:len(text)-1])+"a", 0, 1)
	}
}

// P18.1: a byte that is no sign is broken, by itself.
func TestKindOfBrokenOnes(t *testing.T) {
	for _, text := range []string{
		"\x80", "\xBF", "\xC0", "\xC1", "\xC2", "\xE0", "\xF0", "\xF5", "\xFF",
		"\xC0\x80", "\xC1\xBF", "\xE0\x80\x80", "\xE0\x9F\xBF", "\xF0\x80\x80\x80", "\xF0\x8F\xBF\xBF", // not in their shortest form
		"\xED\xA0\x80", "\xED\xBF\xBF", "\xED\xAF\xBF", // surrogates
		"\xF4\x90\x80\x80", "\xF5\x80\x80\x80", "\xF7\xBF\xBF\xBF", // above the last one
		"\xF8\x88\x80\x80\x80", "\xFC\x84\x80\x80\x80\x80", "\xFE", // more bytes than four
		"\xC2\xC2", "\xC3a", "\xE2\x82", "\xE2\x82a", "\xE2a\x82", "\xF0\x9F\x98", "\xF0\x9F\x98a", "\xF0\x9Fa\x80", "\xF0a\x98\x80", "\xE2\x82\xC2",
	} {
		is(t, text, 0, 1)
		is(t, text+"a", 0, 1)
	}
	for _, c := range []struct {
		text string
		size int
	}{{"\u0080", 2}, {"\u07FF", 2}, {"\u0800", 3}, {"\uD7FF", 3}, {"\uE000", 3}, {"\uFFFD", 3}, {"\uFFFF", 3}, {"\U00010000", 4}, {"\U0010FFFF", 4}} {
		is(t, c.text, 1, c.size)
		is(t, c.text+"\x80", 1, c.size)
	}
}

// P18.1: bytes of chance, against the chapter's words.
func TestKindOfChance(t *testing.T) {
	r := rand.New(rand.NewSource(1))
	heads := []byte{0x7F, 0x80, 0xBF, 0xC1, 0xC2, 0xDF, 0xE0, 0xE1, 0xEC, 0xED, 0xEE, 0xEF, 0xF0, 0xF1, 0xF3, 0xF4, 0xF5, 0xFF}
	tails := []byte{0x7F, 0x80, 0x8F, 0x90, 0x9F, 0xA0, 0xBF, 0xC0, 'a'}
	for range 200000 {
		text := []byte{heads[r.Intn(len(heads))]}
		for range r.Intn(5) {
			text = append(text, tails[r.Intn(len(tails))])
		}
		kind, n := signOf(string(text))
		is(t, string(text), kind, n)
	}
}

// P18.1
func TestLow(t *testing.T) {
	for text, want := range map[string]string{
		"": "", "a": "a", "A": "a", "Z": "z", "@AZ[`az{": "@az[`az{", "aB cD\x00\xFF": "ab cd\x00\xFF", "ÀÉ ПΩ \u212A": "ÀÉ ПΩ \u212A",
		"A\xC3B\xE2\x82C": "a\xC3b\xE2\x82c", "\xC1\xDA": "\xC1\xDA",
	} {
		if low := words.Low([]byte(text)); string(low) != want {
			t.Errorf("Low of %q: %q, not %q", text, low, want)
		}
	}
	for b := range 256 {
		want := byte(b)
		if b >= 65 && b <= 90 {
			want += 32
		}
		if low := words.Low([]byte{byte(b), 'Q', byte(b)}); !bytes.Equal(low, []byte{want, 'q', want}) {
			t.Errorf("Low of the byte %d: %v", b, low)
		}
	}
	if low := words.Low(nil); len(low) != 0 {
		t.Errorf("Low of nothing: %q", low)
	}
	long := bytes.Repeat([]byte("Ab"), maxText)
	if low := words.Low(long); !bytes.Equal(low, bytes.Repeat([]byte("ab"), maxText)) {
		t.Errorf("Low of %d bytes: %d", len(long), len(low))
	}
}
