package train_test

import (
	"bytes"
	"fmt"
	"math"
	"math/rand"
	"slices"
	"strings"
	"testing"

	"imprimatur/api"
	"imprimatur/train"
	"imprimatur/words"
)

// maxText is how many bytes words may have together, mostMerges how many merges there may be without special tokens.
const (
	maxText    = 1 << 14
	mostMerges = 4096 - 256
)

// word is a word that stands so often.
func word(text string, n int64) words.Count {
	return words.Count{Word: []byte(text), N: n}
}

// rows are texts as bytes.
func rows(texts []string) [][]byte {
	var l [][]byte
	for _, s := range texts {
		l = append(l, []byte(s))
	}
	return l
}

// learnt is what is learnt.
func learnt(t *testing.T, l []words.Count, merges int, specials ...string) api.Vocab {
	t.Helper()
	v, e := train.Learn(l, merges, rows(specials)...)
	if e != api.OK {
		t.Fatalf("Learn: error %d", e)
	}
	return v
}

// vocabOf is the vocabulary of the letters, of merges of the tokens of two texts each, and of special tokens.
func vocabOf(merges [][2]string, specials ...string) api.Vocab {
	v := api.Vocab{}
	ids := map[string]int64{}
	add := func(text string, score float64, special bool) int64 {
		ids[text] = int64(len(v.Tokens))
		v.Tokens = append(v.Tokens, api.Token{Bytes: []byte(text), Score: score, Special: special})
		return ids[text]
	}
	for b := range 256 {
		add(string([]byte{byte(b)}), 0, false)
	}
	for rank, m := range merges {
		to := add(m[0]+m[1], 0-float64(rank), false)
		v.Merges = append(v.Merges, api.Merge{A: ids[m[0]], B: ids[m[1]], To: to})
	}
	for _, s := range specials {
		add(s, 0, true)
	}
	return v
}

// mergesOf are the merges of a vocabulary, each by the texts of its two tokens.
func mergesOf(v api.Vocab) [][2]string {
	var l [][2]string
	for _, m := range v.Merges {
		l = append(l, [2]string{string(v.Tokens[m.A].Bytes), string(v.Tokens[m.B].Bytes)})
	}
	return l
}

// learns tells of words of which other merges are learnt: they are told as texts, the two tokens of each with a | between.
func learns(t *testing.T, what string, l []words.Count, merges int, want ...string) {
	t.Helper()
	var pairs [][2]string
	for _, s := range want {
		a, b, _ := strings.Cut(s, "|")
		pairs = append(pairs, [2]string{a, b})
	}
	if v := learnt(t, l, merges); !same(v, vocabOf(pairs)) {
		t.Errorf("%s: %q, not %q", what, mergesOf(v), pairs)
	}
}

// same tells whether vocabularies are, their scores by their bits.
func same(v, w api.Vocab) bool {
	return slices.EqualFunc(v.Tokens, w.Tokens, func(a, b api.Token) bool {
		return bytes.Equal(a.Bytes, b.Bytes) && math.Float64bits(a.Score) == math.Float64bits(b.Score) && a.Special == b.Special
	}) && slices.Equal(v.Merges, w.Merges)
}

// told is a vocabulary in words, without its letters.
func told(v api.Vocab) string {
	s := fmt.Sprintf("%d tokens, merges %v", len(v.Tokens), v.Merges)
	for _, x := range v.Tokens[min(256, len(v.Tokens)):] {
		s += fmt.Sprintf(", %q %v %v", x.Bytes, x.Score, x.Special)
	}
	return s
}

// spelt are words, and how often they stand, in words.
func spelt(l []words.Count) string {
	s := []string{}
	for _, w := range l {
		s = append(s, fmt.Sprintf("%q %d", w.Word, w.N))
	}
	return strings.Join(s, ", ")
}

// corpusOf are words of chance: few letters, so that their tokens have the same bytes in many ways, with those of special tokens among them.
func corpusOf(r *rand.Rand, n int) []words.Count {
	letters := []string{"ab", "a", "abc", "<>s", "ab\xFF ", "<a>"}[r.Intn(6)]
	var l []words.Count
	for range n {
		b := make([]byte, r.Intn(14)*(1+r.Intn(2)*r.Intn(6)))
		for i := range b {
			b[i] = letters[r.Intn(len(letters))]
		}
		l = append(l, words.Count{Word: b, N: often(r)})
	}
	return l
}

// often is how often a word of chance stands.
func often(r *rand.Rand) int64 {
	switch r.Intn(10) {
	case 0:
		return 1 << 32
	case 1:
		return 1 + r.Int63n(1<<32)
	}
	return 1 + r.Int63n(4)
}

// specialsOf are some special tokens of chance.
func specialsOf(r *rand.Rand) []string {
	var l []string
	for _, s := range []string{"<a>", "<s>", "<>>", "<<>", "<aa>", "<ss>>", "<><>", "<a><a>", "<aaaaaaaaaaaaaaaaaaaaaaaaaaaaaa>"} {
		if r.Intn(3) == 0 {
			l = append(l, s)
		}
	}
	r.Shuffle(len(l), func(i, j int) { l[i], l[j] = l[j], l[i] })
	return l
}
