package words_test

import (
	"math/rand"
	"strings"
	"testing"

	"imprimatur/api"
	"imprimatur/words"
)

// counts tells of texts whose counts are others.
func counts(t *testing.T, want []words.Count, texts ...string) {
	t.Helper()
	var l [][]byte
	for _, text := range texts {
		l = append(l, []byte(text))
	}
	if got := countsOf(t, l...); !sameCounts(got, want) {
		t.Errorf("Counts of %q: %s, not %s", texts, told(got), told(want))
	}
}

func word(text string, n int64) words.Count {
	return words.Count{Word: []byte(text), N: n}
}

// P18.2
func TestCounts(t *testing.T) {
	counts(t, nil)
	counts(t, nil, "")
	counts(t, nil, "", "")
	counts(t, []words.Count{word(" a", 1), word("b", 2)}, "b a", "b")
	counts(t, []words.Count{word(" a", 2), word("a", 1)}, "a a a")
	counts(t, []words.Count{word("A", 1), word("a", 2)}, "a", "A", "a")
	counts(t, []words.Count{word("111", 2), word("22", 1)}, "11111122")
	counts(t, []words.Count{word("\xFF", 3)}, "\xFF\xFF", "\xFF")
}

// P18.2: each text is cut by itself.
func TestCountsCutEachText(t *testing.T) {
	counts(t, []words.Count{word("ab", 1)}, "ab")
	counts(t, []words.Count{word("a", 1), word("b", 1)}, "a", "b")
	counts(t, []words.Count{word(" ", 1), word("b", 1)}, " ", "b")
	counts(t, []words.Count{word("\x82", 1), word("\xAC", 1), word("\xE2", 1)}, "\xE2", "\x82", "\xAC")
	counts(t, []words.Count{word("12", 1), word("34", 1)}, "12", "", "34")
}

// P18.2: byte by byte, what another one begins with ahead of it.
func TestCountsRise(t *testing.T) {
	counts(t, []words.Count{
		word("\x00", 1), word("\t", 1), word(" ", 1), word(" A", 1), word(" a", 1), word(" a\u0080", 1), word("!", 1), word("0", 1), word("9", 1),
		word("Z", 1), word("a", 1), word("aa", 1), word("aaé", 1), word("ab", 1), word("b", 1), word("\x80", 1), word("\u0080", 1), word("é", 1), word("é\U0001F600", 1), word("\uFFFF", 1), word("\U00010000", 1), word("\xFF", 1),
	}, "\xFF", "\U00010000", "\uFFFF", "b", "é\U0001F600", "aa", "aaé", "Z", "9", " a", "0", " A", "!", "\x00", "\t", " ", "ab", "\x80", "a", "\u0080", "é", " a\u0080")
}

// P18.2: texts of chance, against the chapter's words.
func TestCountsOfChance(t *testing.T) {
	r := rand.New(rand.NewSource(3))
	for range 5000 {
		var texts [][]byte
		for range r.Intn(5) {
			texts = append(texts, textOf(r, r.Intn(10)))
		}
		if got, want := countsOf(t, texts...), modelCounts(texts...); !sameCounts(got, want) {
			t.Fatalf("Counts of %q: %s, not %s", texts, told(got), told(want))
		}
	}
}

// P18.2: at most MaxText bytes together.
func TestCountsLong(t *testing.T) {
	half := []byte(strings.Repeat("a ", maxText/4))
	whole := []byte(strings.Repeat("b", maxText))
	if got := countsOf(t, half, half); !sameCounts(got, []words.Count{word(" ", 2), word(" a", maxText/2-2), word("a", 2)}) {
		t.Errorf("Counts of MaxText bytes: %s", told(got))
	}
	if got := countsOf(t, nil, whole, nil); !sameCounts(got, []words.Count{{Word: whole, N: 1}}) {
		t.Errorf("Counts of MaxText bytes in one: %d", len(got))
	}
	var many [][]byte
	for range maxText {
		many = append(many, []byte("a"), nil)
	}
	if got := countsOf(t, many...); !sameCounts(got, []words.Count{word("a", maxText)}) {
		t.Errorf("Counts of MaxText texts: %s", told(got))
	}
	for _, texts := range [][][]byte{
		{half, half, []byte("a")}, {[]byte("a"), half, half}, {whole, []byte("b")}, {[]byte("b"), whole}, {whole, whole}, {half, half, half},
		append(many, []byte("a")), {append(whole, 'b')}, {make([]byte, 1<<20)},
	} {
		if l, e := words.Counts(texts...); e != api.ErrLong || len(l) != 0 {
			t.Errorf("Counts of %d texts: %d words and error %d", len(texts), len(l), e)
		}
	}
}
