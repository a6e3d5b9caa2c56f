package bpe_test

import (
	"bytes"
	"math"
	"math/rand"
	"slices"
	"testing"
	"time"

	"imprimatur/api"
	"imprimatur/bpe"
	"imprimatur/score"
	"imprimatur/vocab"
)

// P12.1 to P12.4, W4: texts of chance are cut as the document tells, and put together as they were.
func TestTextsOfChance(t *testing.T) {
	r := rand.New(rand.NewSource(1))
	for range 80 {
		v := learnt(r, r.Intn(40))
		x := tableOf(t, v)
		for range 25 {
			text := textOf(r, v, r.Intn(60))
			ids, e := bpe.Encode(x, text)
			told(t, "Encode", text, ids, e, encoded(v, text))
			if len(ids) > len(text) {
				t.Fatalf("%d tokens of %d bytes", len(ids), len(text))
			}
			if b, e := bpe.Decode(x, ids); e != api.OK || !bytes.Equal(b, text) {
				t.Fatalf("Decode: %q and error %d, not %q", b, e, text)
			}
			ids, e = bpe.Stretch(x, text)
			told(t, "Stretch", text, ids, e, stretched(v, text))
			cutWhole(t, x, text, ids)
		}
	}
}

// cutWhole tells of a stretch's tokens that have merges, or are not its bytes.
func cutWhole(t *testing.T, x *vocab.Table, text []byte, ids []int64) {
	t.Helper()
	for i := 1; i < len(ids); i++ {
		if rank, _, ok := x.Pair(ids[i-1], ids[i]); ok {
			t.Fatalf("the neighbours %d and %d of %q have the merge %d", ids[i-1], ids[i], text, rank)
		}
	}
	if b, e := bpe.Decode(x, ids); e != api.OK || !bytes.Equal(b, text) || len(ids) > len(text) {
		t.Fatalf("Decode of a stretch: %q and error %d, not %q", b, e, text)
	}
}

// P12.3: whatever bytes it has.
func TestBytesOfChance(t *testing.T) {
	r := rand.New(rand.NewSource(2))
	x := tableOf(t, learnt(r, 20))
	for range 200 {
		text := make([]byte, r.Intn(300))
		r.Read(text)
		ids, e := bpe.Encode(x, text)
		if e != api.OK {
			t.Fatalf("Encode: error %d", e)
		}
		if b, e := bpe.Decode(x, ids); e != api.OK || !bytes.Equal(b, text) {
			t.Fatalf("Decode: %q and error %d, not %q", b, e, text)
		}
	}
}

// crossed tells whether a special token begins ahead of a place and ends behind it.
func crossed(v api.Vocab, text []byte, place int) bool {
	for at := range place {
		for _, x := range v.Tokens {
			if x.Special && bytes.HasPrefix(text[at:], x.Bytes) && at+len(x.Bytes) > place {
				return true
			}
		}
	}
	return false
}

// P12.5: what stands ahead of and behind a special token is encoded by itself.
func TestAroundSpecials(t *testing.T) {
	r := rand.New(rand.NewSource(3))
	seen := 0
	for range 60 {
		v := with(learnt(r, 15), "<c>", "<ca>b>")
		x := tableOf(t, v)
		for range 20 {
			text := textOf(r, v, 20+r.Intn(30))
			all, _ := bpe.Encode(x, text)
			for at := range text {
				id, n := specialAt(v, text, at)
				if n == 0 || crossed(v, text, at) {
					continue
				}
				seen++
				ahead, _ := bpe.Encode(x, text[:at])
				behind, _ := bpe.Encode(x, text[at+n:])
				told(t, "Encode", text, all, api.OK, slices.Concat(ahead, []int64{id}, behind))
			}
		}
	}
	if seen < 1000 {
		t.Errorf("%d special tokens", seen)
	}
}

// P12.6: a token's bytes are that token, if that is what they are cut into.
func TestTokensOfTokens(t *testing.T) {
	r := rand.New(rand.NewSource(4))
	whole, other := 0, 0
	for range 60 {
		v := learnt(r, 40)
		x := tableOf(t, v)
		for i, y := range v.Tokens {
			want := stretched(v, y.Bytes)
			ids, e := bpe.Stretch(x, y.Bytes)
			told(t, "Stretch", y.Bytes, ids, e, want)
			if slices.Equal(want, []int64{int64(i)}) {
				whole++
			} else {
				other++
			}
		}
	}
	if whole < 1000 || other < 50 {
		t.Errorf("%d tokens are whole, %d are not", whole, other)
	}
}

// P12.7, W4: a cost is the total of what a text is cut into, and none is above 0.
func TestCostOfChance(t *testing.T) {
	r := rand.New(rand.NewSource(5))
	for range 60 {
		v := learnt(r, 20)
		x := tableOf(t, v)
		for range 20 {
			ids, _ := bpe.Encode(x, textOf(r, v, r.Intn(60)))
			var l []float64
			for _, id := range ids {
				l = append(l, v.Tokens[id].Score)
			}
			want, _ := score.Total(l)
			if c, e := bpe.Cost(x, ids); e != api.OK || math.Float64bits(c) != math.Float64bits(want) || c > 0 {
				t.Fatalf("Cost(%v): %v and error %d, not %v", ids, c, e, want)
			}
		}
	}
}

// W4: the more merges there are, the fewer tokens a text has.
func TestShorterTheMoreWasLearnt(t *testing.T) {
	r := rand.New(rand.NewSource(6))
	for range 20 {
		v := learnt(r, 30)
		text := textOf(r, v, 200)
		encode := func() int {
			ids, e := bpe.Encode(tableOf(t, v), text)
			if e != api.OK {
				t.Fatalf("Encode: error %d", e)
			}
			return len(ids)
		}
		more := encode()
		most := len(text)
		for len(v.Merges) > 0 {
			v.Merges, v.Tokens = v.Merges[:len(v.Merges)-1], v.Tokens[:len(v.Tokens)-1]
			n := encode()
			if n < more || n > most {
				t.Fatalf("%d tokens with a merge more, %d without it", more, n)
			}
			more = n
		}
	}
}

// P1: long texts are cut in an instant, whatever stands in them.
func TestLongTexts(t *testing.T) {
	v := letters()
	for n, s := 0, "a"; n < 5; n, s = n+1, s+s {
		v = merged(v, s, s, -1-float64(n))
	}
	v = with(merged(v, "a", "b", -9), "<<<<<<<<<<<<<<<<<<<<<<<<<<<<<<<>")
	x := tableOf(t, v)
	begun := time.Now()
	for _, s := range []string{"a", "ab", "aab", "<", "<a>", "<<<<<<<<<<<<<<<<<<<<<<<<<<<<<<<>", "\xFF"} {
		text := bytes.Repeat([]byte(s), maxText/len(s))
		ids, e := bpe.Encode(x, text)
		if b, f := bpe.Decode(x, ids); e != api.OK || f != api.OK || !bytes.Equal(b, text) {
			t.Errorf("a long text of %q: errors %d and %d", s, e, f)
		}
	}
	if ids, e := bpe.Encode(x, bytes.Repeat([]byte("a"), maxText)); e != api.OK || !slices.Equal(ids, slices.Repeat([]int64{260}, maxText/32)) {
		t.Errorf("a long text of a: %d tokens and error %d", len(ids), e)
	}
	if d := time.Since(begun); d > 10*time.Second {
		t.Errorf("long texts took %v", d)
	}
}
