package vocab_test

import (
	"math/rand"
	"slices"
	"testing"

	"imprimatur/api"
	"imprimatur/score"
	"imprimatur/vocab"
)

// P11.6, W4: each token that is not special is made of short ones by merges of rising ranks that end with it, and scores fall along the ranks.
func TestTokensAreMade(t *testing.T) {
	r := rand.New(rand.NewSource(8))
	for range 100 {
		v := learnt(r, 20)
		right(t, "one that is learnt", v)
		x := built(t, v)
		var scores []float64
		spelt := map[int64]string{}
		for i, y := range v.Tokens {
			if !y.Special && len(y.Bytes) == 1 {
				spelt[int64(i)] = string(y.Bytes)
			}
		}
		for rank, m := range v.Merges {
			a, okA := spelt[m.A]
			b, okB := spelt[m.B]
			if got, to, ok := x.Pair(m.A, m.B); !okA || !okB || !ok || got != rank || to != m.To {
				t.Fatalf("the merge %d: %d and %v", rank, got, ok)
			}
			spelt[m.To] = a + b
			made, _ := x.Token(m.To)
			scores = append(scores, made.Score)
		}
		bytesOnce := map[string]int64{}
		for i, y := range v.Tokens {
			if s, ok := spelt[int64(i)]; ok == y.Special || ok && s != string(y.Bytes) {
				t.Fatalf("the token %d, %q: %q is made", i, y.Bytes, s)
			}
			bytesOnce[string(y.Bytes)] = int64(i)
			if !score.Valid(y.Score) || y.Score > 0 {
				t.Fatalf("the token %d has the score %v", i, y.Score)
			}
		}
		if len(bytesOnce) != len(v.Tokens) || !score.Falls(scores) {
			t.Fatalf("%d of %d tokens by their bytes; scores %v", len(bytesOnce), len(v.Tokens), scores)
		}
	}
}

// grown is a well formed vocabulary of chance whose merges make its last tokens, in order.
func grown(r *rand.Rand, merges int) api.Vocab {
	v := learnt(r, merges)
	order := make([]int, 0, len(v.Tokens))
	for i, x := range v.Tokens {
		if x.Special || len(x.Bytes) == 1 {
			order = append(order, i)
		}
	}
	for _, m := range v.Merges {
		order = append(order, int(m.To))
	}
	to := make([]int64, len(order))
	w := api.Vocab{}
	for i, from := range order {
		to[from] = int64(i)
		w.Tokens = append(w.Tokens, v.Tokens[from])
	}
	for _, m := range v.Merges {
		w.Merges = append(w.Merges, api.Merge{A: to[m.A], B: to[m.B], To: to[m.To]})
	}
	return w
}

// P11.7
func TestWithoutTheLastMerge(t *testing.T) {
	r := rand.New(rand.NewSource(9))
	for range 60 {
		v := grown(r, 12)
		right(t, "grown", v)
		for len(v.Merges) > 0 {
			last := len(v.Merges) - 1
			made := int(v.Merges[last].To)
			if made != len(v.Tokens)-1 {
				t.Fatal("the last merge does not make the last token")
			}
			v.Merges = v.Merges[:last]
			wrong(t, "without its last merge", v, 1, made, api.ErrToken)
			v.Tokens = v.Tokens[:made]
			right(t, "without its last merge, and the token that it made", v)
		}
	}
}

// P11.8
func TestWithoutALetterOrWithATokenTwice(t *testing.T) {
	r := rand.New(rand.NewSource(10))
	for range 60 {
		v := learnt(r, 12)
		i := r.Intn(len(v.Tokens))
		if x := v.Tokens[i]; !x.Special && len(x.Bytes) == 1 {
			w := own(v)
			w.Tokens = slices.Delete(w.Tokens, i, i+1)
			wrong(t, "a letter short", w, 2, int(x.Bytes[0]), api.ErrAlphabet)
		}
		at := r.Intn(len(v.Tokens) + 1)
		w := own(v)
		w.Tokens = slices.Insert(w.Tokens, at, v.Tokens[i])
		second := max(at, i)
		if at <= i {
			second = i + 1
		}
		wrong(t, "a token twice", w, 1, second, api.ErrToken)
	}
}

// P11.5, P11.2, W4: what is well formed is loaded as it was written.
func TestLoadOfChance(t *testing.T) {
	r := rand.New(rand.NewSource(11))
	for range 100 {
		v := learnt(r, r.Intn(30))
		b, e := vocab.Write(v)
		if e != api.OK {
			t.Fatalf("Write: error %d", e)
		}
		if w, e := vocab.Load(b); e != api.OK || !same(v, w) {
			t.Fatalf("Load: %s and error %d, not %s", told(w), e, told(v))
		}
	}
}
