package words_test

import (
	"bytes"
	"math/rand"
	"slices"
	"strings"
	"testing"

	"imprimatur/api"
	"imprimatur/words"
)

// P18.3, P18.4, W4: a text's words are the text, none is empty, and each has signs of one kind.
func TestWordsOfChance(t *testing.T) {
	r := rand.New(rand.NewSource(4))
	for i := range 20000 {
		text := textOf(r, r.Intn(15))
		if i%4 == 0 {
			r.Read(text)
		}
		l := cutOf(t, text)
		if strings.Join(l, "") != string(text) {
			t.Fatalf("the words of %q are %q", text, l)
		}
		for _, w := range l {
			if why := wrongWord(w); why != "" {
				t.Fatalf("the words of %q are %q: %s", text, l, why)
			}
		}
	}
}

// wrongWord tells what of a word may not be.
func wrongWord(w string) string {
	if w == "" {
		return "one is empty"
	}
	if kind, _ := words.Kind([]byte(w)); kind != 3 {
		return wrongRun(w)
	}
	if w[0] != ' ' || strings.Trim(w, "\t\n\r ") == "" {
		return wrongRun(w)
	}
	if kind, _ := words.Kind([]byte(w[1:])); kind == 0 {
		return "a blank stands ahead of a broken byte"
	}
	return wrongRun(w[1:])
}

// wrongRun tells what of a run may not be.
func wrongRun(w string) string {
	first, _ := words.Kind([]byte(w))
	many := 0
	for at := 0; at < len(w); many++ {
		kind, n := words.Kind([]byte(w[at:]))
		if kind != first {
			return "one has signs of two kinds"
		}
		at += n
	}
	if first == 2 && many > 3 || first == 0 && many > 1 {
		return "one has too many signs"
	}
	return ""
}

// P18.5: the order of texts plays no part, and counts add up.
func TestCountsAddUp(t *testing.T) {
	r := rand.New(rand.NewSource(5))
	for range 2000 {
		var texts [][]byte
		for range r.Intn(6) {
			texts = append(texts, textOf(r, r.Intn(8)))
		}
		all := countsOf(t, texts...)
		sum := map[string]int64{}
		for _, text := range texts {
			for _, c := range countsOf(t, text) {
				sum[string(c.Word)] += c.N
			}
		}
		if len(sum) != len(all) {
			t.Fatalf("%d words, not %d", len(all), len(sum))
		}
		for _, c := range all {
			if sum[string(c.Word)] != c.N {
				t.Fatalf("%q stands %d times, not %d", c.Word, c.N, sum[string(c.Word)])
			}
		}
		r.Shuffle(len(texts), func(i, j int) { texts[i], texts[j] = texts[j], texts[i] })
		if again := countsOf(t, texts...); !sameCounts(all, again) {
			t.Fatalf("in another order %s, not %s", told(again), told(all))
		}
	}
}

// P18.6: a low text is low already, and has as many words.
func TestLowOfChance(t *testing.T) {
	r := rand.New(rand.NewSource(6))
	for range 5000 {
		text := textOf(r, r.Intn(15))
		for i := range text {
			if r.Intn(5) == 0 {
				text[i] = byte('A' + r.Intn(26))
			}
		}
		low := words.Low(text)
		if !bytes.Equal(words.Low(low), low) {
			t.Fatalf("Low of %q is %q", low, words.Low(low))
		}
		was, is := cutOf(t, text), cutOf(t, low)
		same := slices.EqualFunc(was, is, func(a, b string) bool { return string(words.Low([]byte(a))) == b })
		if !same {
			t.Fatalf("the words of %q are %q, those of the low text %q", text, was, is)
		}
	}
}

// Rule 3: what is handed in is neither changed nor kept, and nothing that is answered shares memory.
func TestAnswersAreNewMemory(t *testing.T) {
	text := []byte("Ab ab 12345 !\xFF Ab")
	was := bytes.Clone(text)
	l, _ := words.Cut(text)
	for i, w := range l {
		rest := textsOf(l[i+1:])
		_ = append(w, "zzz"...)
		clear(w)
		if !bytes.Equal(text, was) || !slices.Equal(textsOf(l[i+1:]), rest) {
			t.Fatalf("the word %d shares memory", i)
		}
	}
	for _, low := range [][]byte{words.Low(text), words.Low([]byte("ab"))} {
		_ = append(low, "zzz"...)
		clear(low)
	}
	already := []byte("ab")
	clear(words.Low(already))
	c, _ := words.Counts(text, text)
	for i := range c {
		rest := told(c[i+1:])
		_ = append(c[i].Word, "zzz"...)
		clear(c[i].Word)
		if !bytes.Equal(text, was) || told(c[i+1:]) != rest {
			t.Fatalf("the count %d shares memory", i)
		}
	}
	if string(already) != "ab" {
		t.Errorf("Low hands out what it was given: %q", already)
	}
}

// Rule 5: the same answer each time.
func TestAnswersAreTheSame(t *testing.T) {
	r := rand.New(rand.NewSource(7))
	text := textOf(r, 300)
	first := countsOf(t, text)
	for range 50 {
		if again := countsOf(t, text); !sameCounts(first, again) {
			t.Fatal("Counts answers otherwise")
		}
	}
}

// P1: arguments of chance.
func TestEveryCallEnds(t *testing.T) {
	r := rand.New(rand.NewSource(8))
	words.Counts()
	words.Counts(nil, nil)
	if l, e := words.Cut(nil); e != api.OK || len(l) != 0 {
		t.Errorf("Cut of nothing: %q and error %d", l, e)
	}
	for range 20000 {
		text := make([]byte, r.Intn(40))
		r.Read(text)
		words.Kind(text)
		words.Low(text)
		words.Cut(text)
		words.Counts(text, text[:len(text)/2])
	}
}
