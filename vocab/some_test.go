package vocab_test

import (
	"bytes"
	"fmt"
	"math"
	"math/rand"
	"slices"
	"testing"

	"imprimatur/api"
	"imprimatur/vocab"
)

var zeroBelow = math.Copysign(0, -1)

// noScores are numbers that are no scores.
func noScores() []float64 {
	return []float64{
		math.NaN(), math.Float64frombits(0x7FF0000000000001), math.Float64frombits(0xFFFFFFFFFFFFFFFF),
		math.Inf(1), math.Inf(-1), zeroBelow,
	}
}

// letters are the short tokens of all bytes, by their bytes.
func letters() api.Vocab {
	v := api.Vocab{}
	for b := range 256 {
		v.Tokens = append(v.Tokens, api.Token{Bytes: []byte{byte(b)}})
	}
	return v
}

func token(text string, score float64) api.Token {
	return api.Token{Bytes: []byte(text), Score: score}
}

func special(text string) api.Token {
	return api.Token{Bytes: []byte(text), Special: true}
}

// small is a well formed vocabulary of letters, two special tokens (258 and 259), and merges of ab (256), abc (257), abab (260).
func small() api.Vocab {
	v := letters()
	v.Tokens = append(v.Tokens, token("ab", -1), token("abc", -2), special("<s>"), special("<s><s>"), token("abab", -2.5))
	v.Merges = []api.Merge{{A: 'a', B: 'b', To: 256}, {A: 256, B: 'c', To: 257}, {A: 256, B: 256, To: 260}}
	return v
}

// chain is letters, and so many merges of one letter with what was made ahead, each token the last one.
func chain(n int) api.Vocab {
	v := letters()
	last := int64('x')
	for i := range n {
		v.Tokens = append(v.Tokens, token(string(bytes.Repeat([]byte("x"), i+2)), -1-float64(i)))
		v.Merges = append(v.Merges, api.Merge{A: last, B: 'x', To: int64(256 + i)})
		last = int64(256 + i)
	}
	return v
}

// pairs is letters, and a merge of each of so many pairs of them: as many as may be, and more.
func pairs(n int) api.Vocab {
	v := letters()
	for i := range n {
		a, b := i/200, i%200
		v.Tokens = append(v.Tokens, api.Token{Bytes: []byte{byte(a), byte(b)}})
		v.Merges = append(v.Merges, api.Merge{A: int64(a), B: int64(b), To: int64(256 + i)})
	}
	return v
}

// chains is letters, and for each of so many letters tokens of 2 to 32 of it.
func chains(n int) api.Vocab {
	v := letters()
	for b := range n {
		last := int64(b)
		for i := 2; i <= 32; i++ {
			to := int64(len(v.Tokens))
			v.Tokens = append(v.Tokens, api.Token{Bytes: bytes.Repeat([]byte{byte(b)}, i)})
			v.Merges = append(v.Merges, api.Merge{A: last, B: int64(b), To: to})
			last = to
		}
	}
	return v
}

// own is a vocabulary of the same parts in new memory.
func own(v api.Vocab) api.Vocab {
	w := api.Vocab{Tokens: slices.Clone(v.Tokens), Merges: slices.Clone(v.Merges)}
	for i, t := range w.Tokens {
		w.Tokens[i].Bytes = bytes.Clone(t.Bytes)
	}
	return w
}

// same tells whether vocabularies are, their scores by their bits.
func same(v, w api.Vocab) bool {
	return slices.EqualFunc(v.Tokens, w.Tokens, sameToken) && slices.Equal(v.Merges, w.Merges)
}

func sameToken(a, b api.Token) bool {
	return bytes.Equal(a.Bytes, b.Bytes) && math.Float64bits(a.Score) == math.Float64bits(b.Score) && a.Special == b.Special
}

// learnt is a well formed vocabulary of chance, its numbers in an order of chance, too.
func learnt(r *rand.Rand, merges int) api.Vocab {
	v := letters()
	for i := range v.Tokens {
		v.Tokens[i].Score = 0 - float64(r.Intn(3))*1.5 // no zero below
	}
	parts := []int64{'a', 'b', '<', '>'}
	seen := map[string]bool{}
	for _, s := range []string{"<a>", "<b>", "<a><b>", "<ab>", "<<a>", "<a>>", "<>>", "<a>b<b>"} {
		if r.Intn(2) == 0 {
			seen[s] = true
			v.Tokens = append(v.Tokens, special(s))
		}
	}
	scores := fallingScores(r, merges)
	for range 4 * merges {
		a, b := parts[r.Intn(len(parts))], parts[r.Intn(len(parts))]
		s := string(v.Tokens[a].Bytes) + string(v.Tokens[b].Bytes)
		if len(s) > 32 || seen[s] || len(v.Merges) == merges {
			continue
		}
		seen[s] = true
		to := int64(len(v.Tokens))
		v.Tokens = append(v.Tokens, token(s, scores[len(v.Merges)]))
		v.Merges = append(v.Merges, api.Merge{A: a, B: b, To: to})
		parts = append(parts, to)
	}
	return shuffled(r, v)
}

// fallingScores are n scores of which none is above the one ahead of it.
func fallingScores(r *rand.Rand, n int) []float64 {
	l := []float64{0, -math.SmallestNonzeroFloat64, -0.1, -1, -1, -2.5, -1e300, -math.MaxFloat64}
	for len(l) < n {
		l = append(l, -r.ExpFloat64())
	}
	slices.Sort(l)
	slices.Reverse(l)
	return l
}

// shuffled is a vocabulary whose tokens have other numbers.
func shuffled(r *rand.Rand, v api.Vocab) api.Vocab {
	to := r.Perm(len(v.Tokens))
	w := api.Vocab{Tokens: make([]api.Token, len(v.Tokens))}
	for i, t := range v.Tokens {
		w.Tokens[to[i]] = t
	}
	for _, m := range v.Merges {
		w.Merges = append(w.Merges, api.Merge{A: int64(to[m.A]), B: int64(to[m.B]), To: int64(to[m.To])})
	}
	return w
}

// right tells of a vocabulary that is not well formed.
func right(t *testing.T, what string, v api.Vocab) {
	t.Helper()
	if p, e := vocab.Check(v); e != api.OK || p != (vocab.Place{}) {
		t.Fatalf("Check, %s: %v and error %d", what, p, e)
	}
}

// wrong tells of a vocabulary whose first fault is not that one.
func wrong(t *testing.T, what string, v api.Vocab, kind, index int, want api.Errno) {
	t.Helper()
	if p, e := vocab.Check(v); e != want || p != (vocab.Place{Kind: kind, Index: index}) {
		t.Errorf("Check, %s: %v and error %d, not {%d %d} and %d", what, p, e, kind, index, want)
	}
}

// built is a vocabulary's table.
func built(t *testing.T, v api.Vocab) *vocab.Table {
	t.Helper()
	x, e := vocab.Build(v)
	if e != api.OK || x == nil {
		t.Fatalf("Build: %v and error %d", x != nil, e)
	}
	return x
}

// told is a vocabulary in words, without the letters at its beginning.
func told(v api.Vocab) string {
	return fmt.Sprintf("%d tokens %v, merges %v", len(v.Tokens), v.Tokens[min(256, len(v.Tokens)):], v.Merges)
}
