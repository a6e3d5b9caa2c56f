package train_test

import (
	"bytes"
	"math"
	"math/rand"
	"slices"
	"testing"

	"imprimatur/api"
	"imprimatur/bpe"
	"imprimatur/score"
	"imprimatur/train"
	"imprimatur/vocab"
	"imprimatur/words"
)

// P19.3, W4: what is learnt is well formed, and its scores fall and are numbers.
func TestWhatIsLearntIsWellFormed(t *testing.T) {
	r := rand.New(rand.NewSource(4))
	for range 500 {
		v := learnt(t, corpusOf(r, r.Intn(10)), r.Intn(60), specialsOf(r)...)
		if p, e := vocab.Check(v); e != api.OK {
			t.Fatalf("Check: %v and error %d of %s", p, e, told(v))
		}
		var scores []float64
		for _, m := range v.Merges {
			scores = append(scores, v.Tokens[m.To].Score)
		}
		if !score.Falls(scores) {
			t.Fatalf("the scores %v", scores)
		}
		for _, x := range v.Tokens {
			if !score.Valid(x.Score) {
				t.Fatalf("the token %q has the score %v", x.Bytes, x.Score)
			}
		}
	}
}

// P19.4: by more merges the same ones come first.
func TestMoreMerges(t *testing.T) {
	r := rand.New(rand.NewSource(5))
	for range 100 {
		l, specials := corpusOf(r, 6), specialsOf(r)
		all := learnt(t, l, 42, specials...)
		for n := range 42 {
			v := learnt(t, l, n, specials...)
			most := min(n, len(all.Merges))
			if len(v.Merges) != most || !slices.Equal(v.Merges, all.Merges[:most]) {
				t.Fatalf("by %d merges %q, by 42 %q", n, mergesOf(v), mergesOf(all))
			}
			if first := vocabOf(mergesOf(all)[:most], specials...); !same(v, first) {
				t.Fatalf("by %d merges %s, not %s", n, told(v), told(first))
			}
		}
	}
}

// P19.5: the order of words plays no part, nor whether one stands once with all its N or several times with parts of it.
func TestOrderPlaysNoPart(t *testing.T) {
	r := rand.New(rand.NewSource(6))
	for range 400 {
		l, specials := corpusOf(r, r.Intn(8)), specialsOf(r)
		other := []words.Count{word("", 1+r.Int63n(1<<32))}
		for _, w := range l {
			if w.N > 1 && r.Intn(2) == 0 {
				part := 1 + r.Int63n(w.N-1)
				other = append(other, words.Count{Word: w.Word, N: part})
				w.N -= part
			}
			other = append(other, w)
		}
		r.Shuffle(len(other), func(i, j int) { other[i], other[j] = other[j], other[i] })
		v, w := learnt(t, l, 30, specials...), learnt(t, other, 30, specials...)
		if !same(v, w) {
			t.Fatalf("of %s %q, of %s %q", spelt(l), mergesOf(v), spelt(other), mergesOf(w))
		}
		n, _ := train.Weight(v, l)
		weighs(t, v, n, other...)
	}
}

// P19.6, W4: the parts that words have in the end are what the vocabulary cuts them into, and each merge makes the weight less.
func TestPartsAreWhatIsCut(t *testing.T) {
	r := rand.New(rand.NewSource(7))
	for range 150 {
		l, specials := corpusOf(r, 5), specialsOf(r)
		m := newModel(l, specials)
		weight := int64(math.MaxInt64)
		for n := range 30 {
			v := learnt(t, l, n, specials...)
			for i, w := range l {
				parts(t, v, string(w.Word), m.numbers(i)...)
			}
			weighs(t, v, m.weight(), l...)
			if m.weight() >= weight {
				t.Fatalf("by %d merges of %s: the weight %d, not below %d", n, spelt(l), m.weight(), weight)
			}
			weight = m.weight()
			p, ok := m.next()
			if !ok {
				break
			}
			m.merge(p)
		}
	}
}

// W4: texts are cut by what is learnt of their own words, and put together as they were, into the fewer tokens the more was learnt.
func TestTextsAreCut(t *testing.T) {
	text := []byte("The cat sat on the mat; the other cat sat on the other mat. 1234 cats, 12345 mats: na\xC3\xAFve \xFF cats!\n\n  <s> the end <s>")
	counts, e := words.Counts(words.Low(text))
	if e != api.OK {
		t.Fatalf("Counts: error %d", e)
	}
	weight, many := int64(len(text))+1, len(text)+1
	for n := range 30 {
		v := learnt(t, counts, n, "<s>", "<end>")
		w, _ := train.Weight(v, counts)
		if len(v.Merges) == n && w >= weight {
			t.Errorf("by %d merges the weight %d, not below %d", n, w, weight)
		}
		x, e := vocab.Build(v)
		if e != api.OK {
			t.Fatalf("Build: error %d", e)
		}
		ids, _ := bpe.Encode(x, text)
		back, e := bpe.Decode(x, ids)
		if e != api.OK || !bytes.Equal(back, text) || len(ids) > many {
			t.Errorf("by %d merges: %d tokens, %q", n, len(ids), back)
		}
		weight, many = w, len(ids)
	}
	if many > len(text)*3/4 {
		t.Errorf("%d tokens of %d bytes", many, len(text))
	}
}

// Rule 3: what is handed in is neither changed nor kept, and nothing that is answered shares memory.
func TestAnswersAreNewMemory(t *testing.T) {
	l := []words.Count{word("abab", 2), word("<s>", 3), word("ab", 1)}
	specials := rows([]string{"<s>", "<t>"})
	v, _ := train.Learn(l, 5, specials...)
	want := learnt(t, []words.Count{word("abab", 2), word("<s>", 3), word("ab", 1)}, 5, "<s>", "<t>")
	for i := range v.Tokens {
		if !same(api.Vocab{Tokens: v.Tokens[i:]}, api.Vocab{Tokens: want.Tokens[i:]}) {
			t.Fatalf("the token %d shares memory with one ahead of it", i)
		}
		_ = append(v.Tokens[i].Bytes, "zzz"...)
		clear(v.Tokens[i].Bytes)
	}
	ids, _ := train.Parts(want, l[0].Word)
	clear(ids)
	train.Weight(want, l)
	if string(bytes.Join(specials, nil)) != "<s><t>" || string(l[0].Word) != "abab" || string(l[1].Word) != "<s>" || l[2].N != 1 {
		t.Errorf("now it is %s and %q", spelt(l), specials)
	}
	if again := learnt(t, l, 5, "<s>", "<t>"); !same(again, want) {
		t.Errorf("now %s is learnt, not %s", told(again), told(want))
	}
}

// Rule 5: the same answer each time, whatever the order that a map is gone through in.
func TestAnswersAreTheSame(t *testing.T) {
	r := rand.New(rand.NewSource(8))
	l := corpusOf(r, 40)
	v := learnt(t, l, 60)
	for range 50 {
		if again := learnt(t, l, 60); !same(v, again) {
			t.Fatal("Learn answers otherwise")
		}
	}
}

// P1: arguments of chance, many of them out of bounds.
func TestEveryCallEnds(t *testing.T) {
	r := rand.New(rand.NewSource(9))
	some := []int64{0, 1, 2, 3, 40, mostMerges, mostMerges + 1, -1, math.MinInt64, math.MaxInt64, 1 << 32, 1<<32 + 1}
	of := func() int64 { return some[r.Intn(len(some))] }
	for range 3000 {
		l := corpusOf(r, r.Intn(5))
		if len(l) > 0 && r.Intn(3) == 0 {
			l[r.Intn(len(l))].N = of()
		}
		specials := append(rows(specialsOf(r)), make([][]byte, r.Intn(2)*r.Intn(80))...)
		v, e := train.Learn(l, int(of()), specials...)
		if e != api.OK && !same(v, api.Vocab{}) {
			t.Fatalf("error %d beside %s", e, told(v))
		}
		if len(v.Merges) > 0 && r.Intn(2) == 0 {
			v.Merges[r.Intn(len(v.Merges))].A = of()
		}
		train.Weight(v, l)
		for _, w := range l {
			train.Parts(v, w.Word)
		}
	}
}
