package bpe_test

import (
	"bytes"
	"math/rand"
	"slices"
	"testing"

	"imprimatur/api"
	"imprimatur/bpe"
	"imprimatur/vocab"
)

// maxText is how many bytes and numbers may be handed in.
const maxText = 1 << 14

// letters are the short tokens of all bytes, by their bytes.
func letters() api.Vocab {
	v := api.Vocab{}
	for b := range 256 {
		v.Tokens = append(v.Tokens, api.Token{Bytes: []byte{byte(b)}})
	}
	return v
}

// with is a vocabulary with special tokens behind.
func with(v api.Vocab, specials ...string) api.Vocab {
	for _, s := range specials {
		v.Tokens = append(v.Tokens, api.Token{Bytes: []byte(s), Special: true})
	}
	return v
}

// merged is a vocabulary with a merge more, of the tokens of two texts, and what it makes behind.
func merged(v api.Vocab, a, b string, score float64) api.Vocab {
	id := func(s string) int64 {
		return int64(slices.IndexFunc(v.Tokens, func(x api.Token) bool { return string(x.Bytes) == s }))
	}
	v.Merges = append(v.Merges, api.Merge{A: id(a), B: id(b), To: int64(len(v.Tokens))})
	v.Tokens = append(v.Tokens, api.Token{Bytes: []byte(a + b), Score: score})
	return v
}

// tableOf is a vocabulary's table.
func tableOf(t *testing.T, v api.Vocab) *vocab.Table {
	t.Helper()
	x, e := vocab.Build(v)
	if e != api.OK {
		t.Fatalf("Build: error %d", e)
	}
	return x
}

// learnt is a well formed vocabulary of chance, of merges over a, b, < and >, and special tokens of them.
func learnt(r *rand.Rand, merges int) api.Vocab {
	v := letters()
	for i := range v.Tokens {
		v.Tokens[i].Score = 0 - float64(r.Intn(4)) // no zero below
	}
	for _, s := range []string{"<a>", "<b>", "<a><b>", "<ab>", "<<a>", "<a>>", "<>>", "<a>b<b>"} {
		if r.Intn(3) == 0 {
			v = with(v, s)
		}
	}
	parts := []string{"a", "b", "a", "b", "<", ">"}
	for range 6 * merges {
		a, b := parts[r.Intn(len(parts))], parts[r.Intn(len(parts))]
		taken := slices.ContainsFunc(v.Tokens, func(x api.Token) bool { return string(x.Bytes) == a+b })
		if len(v.Merges) < merges && !taken && len(a+b) <= 32 {
			v = merged(v, a, b, -1-0.25*float64(len(v.Merges)/2))
			parts = append(parts, a+b)
		}
	}
	return v
}

// textOf is a text of chance, of a, b, < and >, and now and then the bytes of a token.
func textOf(r *rand.Rand, v api.Vocab, n int) []byte {
	text := []byte{}
	for len(text) < n {
		switch {
		case r.Intn(4) == 0:
			text = append(text, v.Tokens[255+r.Intn(len(v.Tokens)-255)].Bytes...)
		default:
			text = append(text, "aabb<>"[r.Intn(6)])
		}
	}
	return text
}

// stretched are the tokens of a stretch, as the document tells them.
func stretched(v api.Vocab, text []byte) []int64 {
	ids := []int64{}
	for _, b := range text {
		ids = append(ids, int64(slices.IndexFunc(v.Tokens, func(x api.Token) bool { return !x.Special && string(x.Bytes) == string([]byte{b}) })))
	}
joining:
	for {
		for _, m := range v.Merges { // the lowest rank first
			for i := range max(len(ids)-1, 0) { // and of several the first ones
				if ids[i] == m.A && ids[i+1] == m.B {
					ids = slices.Replace(ids, i, i+2, m.To)
					continue joining
				}
			}
		}
		return ids
	}
}

// specialAt is the special token that stands at a place, the longest that does, and how many bytes it has.
func specialAt(v api.Vocab, text []byte, at int) (id int64, n int) {
	for i, x := range v.Tokens {
		if x.Special && bytes.HasPrefix(text[at:], x.Bytes) && len(x.Bytes) > n {
			id, n = int64(i), len(x.Bytes)
		}
	}
	return id, n
}

// encoded are a text's tokens, as the document tells them.
func encoded(v api.Vocab, text []byte) []int64 {
	for at := range text {
		if id, n := specialAt(v, text, at); n > 0 {
			return slices.Concat(stretched(v, text[:at]), []int64{id}, encoded(v, text[at+n:]))
		}
	}
	return stretched(v, text)
}

// told tells of tokens that are others, or an error.
func told(t *testing.T, what string, text []byte, got []int64, e api.Errno, want []int64) {
	t.Helper()
	if e != api.OK || !slices.Equal(got, want) {
		t.Fatalf("%s of %q: %v and error %d, not %v", what, text, got, e, want)
	}
}

// encodes tells of a text whose tokens are others, or that is decoded otherwise.
func encodes(t *testing.T, x *vocab.Table, text string, want ...int64) {
	t.Helper()
	got, e := bpe.Encode(x, []byte(text))
	told(t, "Encode", []byte(text), got, e, want)
	if b, e := bpe.Decode(x, got); e != api.OK || string(b) != text {
		t.Errorf("Decode of %v: %q and error %d, not %q", got, b, e, text)
	}
}
