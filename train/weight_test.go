package train_test

import (
	"math"
	"math/rand"
	"slices"
	"strings"
	"testing"

	"imprimatur/api"
	"imprimatur/train"
	"imprimatur/words"
)

// parts tells of a word that has other parts.
func parts(t *testing.T, v api.Vocab, word string, want ...int64) {
	t.Helper()
	if got, e := train.Parts(v, []byte(word)); e != api.OK || !slices.Equal(got, want) {
		t.Errorf("Parts of %q: %v and error %d, not %v", word, got, e, want)
	}
}

// weighs tells of words that have another weight.
func weighs(t *testing.T, v api.Vocab, want int64, l ...words.Count) {
	t.Helper()
	if got, e := train.Weight(v, l); e != api.OK || got != want {
		t.Errorf("Weight of %s: %d and error %d, not %d", spelt(l), got, e, want)
	}
}

// P19.2
func TestParts(t *testing.T) {
	v := vocabOf([][2]string{{"a", "b"}, {"ab", "b"}, {"<", "s"}}, "<s>")
	parts(t, v, "")
	parts(t, v, "a", 'a')
	parts(t, v, "abb", 257)
	parts(t, v, "bab", 'b', 256)
	parts(t, v, "\x00\xFF", 0, 255)
	parts(t, v, "<s>", 258, '>') // one stretch: no special token
	parts(t, v, "a b", 'a', ' ', 'b')
	parts(t, v, strings.Repeat("ab", maxText/2), slices.Repeat([]int64{256}, maxText/2)...)
}

// P19.2
func TestWeight(t *testing.T) {
	v := vocabOf([][2]string{{"a", "b"}, {"ab", "b"}, {"<", "s"}}, "<s>")
	weighs(t, v, 0)
	weighs(t, v, 0, word("", 1), word("", 1<<32))
	weighs(t, v, 1, word("abb", 1))
	weighs(t, v, 5, word("abb", 5))
	weighs(t, v, 10, word("bab", 5))
	weighs(t, v, 2*5+3*7+2, word("bab", 5), word("cde", 7), word("<s>", 1))
	weighs(t, v, 8, word("bab", 1), word("bab", 3))
	weighs(t, v, 1<<32, word("abb", 1<<32))
	weighs(t, v, 1<<46, word(strings.Repeat("b", maxText), 1<<32))
	weighs(t, v, 1<<45, word(strings.Repeat("ab", maxText/2), 1<<32))
	weighs(t, learnt(t, []words.Count{word("aab", 2)}, 1, "<s>"), 4, word("aab", 2))
}

// wrongVocabs are vocabularies that are not well formed, by the error of the first fault.
func wrongVocabs() map[api.Errno]api.Vocab {
	of := func(change func(v *api.Vocab)) api.Vocab {
		v := vocabOf([][2]string{{"a", "b"}, {"ab", "b"}}, "<s>")
		change(&v)
		return v
	}
	return map[api.Errno]api.Vocab{
		api.ErrLong:     of(func(v *api.Vocab) { v.Tokens = make([]api.Token, 4097) }),
		api.ErrToken:    of(func(v *api.Vocab) { v.Tokens[258].Bytes = []byte("<s") }),
		api.ErrScore:    of(func(v *api.Vocab) { v.Tokens[9].Score = math.NaN() }),
		api.ErrAlphabet: {},
		api.ErrMerge:    of(func(v *api.Vocab) { v.Merges[1].A = -1 }),
		api.ErrRank:     of(func(v *api.Vocab) { v.Tokens[256].Score = -5 }),
	}
}

// P19.2, Rule 1
func TestPartsAndWeightRefuse(t *testing.T) {
	fine := vocabOf(nil)
	for _, n := range []int{maxText + 1, maxText + 2, 1 << 20} {
		long := strings.Repeat("a", n)
		noParts(t, "a long word", fine, long, api.ErrLong)
		noWeight(t, "a long word", fine, api.ErrLong, word(long, 1))
		noWeight(t, "a long word, and one", fine, api.ErrLong, word(long, 1), word("a", 1))
		noWeight(t, "a long word, and an N", fine, api.ErrArg, word(long, 1), word("a", 0))
	}
	half := strings.Repeat("a", maxText/2)
	noWeight(t, "long words", fine, api.ErrLong, word(half, 1), word(half, 1), word("a", 1))
	noWeight(t, "long words", fine, api.ErrLong, word("a", 1), word(half, 1), word(half, 1))
	weighs(t, fine, 2*maxText, word(half, 1), word(half, 3), word("", 1))
	for _, n := range []int64{0, -1, math.MinInt64, 1<<32 + 1, math.MaxInt64} {
		noWeight(t, "an N", fine, api.ErrArg, word("a", n))
		noWeight(t, "an N of no bytes", fine, api.ErrArg, word("", n))
		noWeight(t, "an N behind", fine, api.ErrArg, word("a", 1), word("a", n))
		noWeight(t, "an N ahead", fine, api.ErrArg, word("a", n), word("a", 1))
	}
	for e, v := range wrongVocabs() {
		noParts(t, "a wrong vocabulary", v, "ab", e)
		noParts(t, "a wrong vocabulary, and a long word", v, strings.Repeat("a", maxText+1), e)
		noWeight(t, "a wrong vocabulary", v, e)
		noWeight(t, "a wrong vocabulary, and an N", v, e, word("a", 0))
		noWeight(t, "a wrong vocabulary, and a long word", v, e, word(strings.Repeat("a", maxText+1), 1))
	}
}

// noParts tells of a word that is not refused so.
func noParts(t *testing.T, what string, v api.Vocab, word string, want api.Errno) {
	t.Helper()
	if ids, e := train.Parts(v, []byte(word)); e != want || len(ids) != 0 {
		t.Errorf("Parts, %s: %d and error %d, not %d", what, len(ids), e, want)
	}
}

// noWeight tells of words that are not refused so.
func noWeight(t *testing.T, what string, v api.Vocab, want api.Errno, l ...words.Count) {
	t.Helper()
	if n, e := train.Weight(v, l); e != want || n != 0 {
		t.Errorf("Weight, %s: %d and error %d, not %d", what, n, e, want)
	}
}

// P19.2: of vocabularies that were not learnt so: their numbers and scores are others.
func TestPartsOfChance(t *testing.T) {
	r := rand.New(rand.NewSource(3))
	for range 60 {
		l := corpusOf(r, 6)
		v := shuffled(r, learnt(t, l, r.Intn(20), specialsOf(r)...))
		sum := int64(0)
		for _, w := range l {
			want := stretched(v, w.Word)
			parts(t, v, string(w.Word), want...)
			sum += int64(len(want)) * w.N
		}
		weighs(t, v, sum, l...)
	}
}

// shuffled is a vocabulary whose tokens have other numbers.
func shuffled(r *rand.Rand, v api.Vocab) api.Vocab {
	to := r.Perm(len(v.Tokens))
	w := api.Vocab{Tokens: make([]api.Token, len(v.Tokens))}
	for i, x := range v.Tokens {
		w.Tokens[to[i]] = x
	}
	for _, m := range v.Merges {
		w.Merges = append(w.Merges, api.Merge{A: int64(to[m.A]), B: int64(to[m.B]), To: int64(to[m.To])})
	}
	return w
}
