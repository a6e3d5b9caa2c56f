package train_test

import (
	"math"
	"math/rand"
	"strings"
	"testing"
	"time"

	"imprimatur/api"
	"imprimatur/train"
	"imprimatur/vocab"
	"imprimatur/words"
)

// P19.1
func TestLearn(t *testing.T) {
	aab := []words.Count{word("aab", 2)}
	learns(t, "none", aab, 0)
	learns(t, "one", aab, 1, "a|a")
	learns(t, "two", aab, 2, "a|a", "aa|b")
	learns(t, "more than there are", aab, 3, "a|a", "aa|b")
	learns(t, "as many as may be", aab, mostMerges, "a|a", "aa|b")
	learns(t, "no words", nil, 9)
	learns(t, "words without bytes", []words.Count{word("", 5), {N: 1}}, 9)
	learns(t, "words of one byte", []words.Count{word("a", 5), word("a", 5), word("\xFF", 1<<32)}, 9)
	learns(t, "four words", []words.Count{word("low", 5), word("lower", 2), word("newest", 6), word("widest", 3)}, 6, "e|s", "es|t", "l|o", "lo|w", "e|w", "n|ew")
	learns(t, "bytes that are no signs", []words.Count{word("\x00\xFF\x00", 2)}, 9, "\x00|\xFF", "\x00\xFF|\x00")
	learns(t, "what is no special token here", []words.Count{word("<s><s>", 1)}, 9, "<|s", "<s|>")
}

// P19.1: the short tokens by their bytes, what merges make, the special ones; the scores are 0 less the rank, and no zero below.
func TestLearnTokens(t *testing.T) {
	v := learnt(t, []words.Count{word("abcd", 2)}, 9, "<s>", "<>>", "<bos>")
	texts := []string{"ab", "cd", "abcd", "<s>", "<>>", "<bos>"}
	scores := []float64{0, -1, -2, 0, 0, 0}
	if len(v.Tokens) != 262 || len(v.Merges) != 3 {
		t.Fatalf("Learn: %s", told(v))
	}
	for i, x := range v.Tokens {
		text, score, special := string([]byte{byte(i)}), 0.0, i >= 259
		if i >= 256 {
			text, score = texts[i-256], scores[i-256]
		}
		if string(x.Bytes) != text || math.Float64bits(x.Score) != math.Float64bits(score) || x.Special != special {
			t.Errorf("the token %d: %q, %v, %v", i, x.Bytes, x.Score, x.Special)
		}
	}
	for rank, m := range []api.Merge{{A: 'a', B: 'b', To: 256}, {A: 'c', B: 'd', To: 257}, {A: 256, B: 257, To: 258}} {
		if v.Merges[rank] != m {
			t.Errorf("the merge %d: %v, not %v", rank, v.Merges[rank], m)
		}
	}
	if v := learnt(t, nil, 0, "<s>"); !same(v, vocabOf(nil, "<s>")) {
		t.Errorf("special tokens alone: %s", told(v))
	}
}

// P19.1: the greatest weight.
func TestLearnTheHeaviest(t *testing.T) {
	learns(t, "one that stands oftener", []words.Count{word("ab", 2), word("yz", 3)}, 1, "y|z")
	learns(t, "added up", []words.Count{word("ab", 2), word("yz", 3), word("xab", 2)}, 1, "a|b")
	learns(t, "added up in one word", []words.Count{word("abab", 2), word("yz", 3)}, 1, "a|b")
	learns(t, "places that share a part", []words.Count{word("aaaa", 2), word("yz", 5)}, 1, "a|a")
	learns(t, "no more places than there are", []words.Count{word("aaaa", 2), word("yz", 7)}, 1, "y|z")
	learns(t, "great ones", []words.Count{word("ab", 1<<32), word("yz", 1<<32), word("yz", 1)}, 2, "y|z", "a|b")
	learns(t, "what is left of one", []words.Count{word("xab", 5), word("ab", 1), word("xa", 1), word("yz", 2)}, 3, "a|b", "x|ab", "y|z")
}

// P19.1: of several the one whose first token has the lowest number, of these the one whose second has.
func TestLearnOfSeveral(t *testing.T) {
	learns(t, "just as often", []words.Count{word("yz", 3), word("ab", 3)}, 1, "a|b")
	learns(t, "the first token's number", []words.Count{word("ca", 3), word("bz", 3)}, 2, "b|z", "c|a")
	learns(t, "the second token's number", []words.Count{word("bz", 3), word("ba", 3), word("ca", 3)}, 3, "b|a", "b|z", "c|a")
	learns(t, "of the bytes 0 and 255", []words.Count{word("\xFF\x00", 2), word("\x00\xFF", 2), word("\x01\x00", 2)}, 3, "\x00|\xFF", "\x01|\x00", "\xFF|\x00")
	learns(t, "a new token's number is above", []words.Count{word("zzq", 5), word("yb", 4), word("zzr", 4)}, 4, "z|z", "zz|q", "y|b", "zz|r")
	learns(t, "of new tokens the older one", []words.Count{word("zz", 9), word("aa", 8), word("aac", 3), word("zzc", 3)}, 4, "z|z", "a|a", "zz|c", "aa|c")
}

// P19.1: a weight of 2 at least.
func TestLearnLeastWeight(t *testing.T) {
	learns(t, "one that stands once", []words.Count{word("ab", 1)}, 9)
	learns(t, "some that stand once", []words.Count{word("abcd", 1), word("efgh", 1)}, 9)
	learns(t, "twice", []words.Count{word("ab", 2)}, 9, "a|b")
	learns(t, "in two words", []words.Count{word("ab", 1), word("ab", 1)}, 9, "a|b")
	learns(t, "at two places", []words.Count{word("abxab", 1)}, 9, "a|b")
	learns(t, "at two places that share a part", []words.Count{word("aaa", 1)}, 9, "a|a")
	learns(t, "at one place", []words.Count{word("aa", 1)}, 9)
	learns(t, "till none has it", []words.Count{word("abcd", 1), word("abc", 1)}, 9, "a|b", "ab|c")
}

// P19.1: from a word's beginning on.
func TestLearnFromTheBeginning(t *testing.T) {
	learns(t, "three", []words.Count{word("aaa", 2)}, 9, "a|a", "aa|a")
	learns(t, "five", []words.Count{word("aaaaa", 2)}, 9, "a|a", "aa|a", "aa|aaa")
	learns(t, "behind another one", []words.Count{word("baaa", 2)}, 9, "a|a", "b|aa", "baa|a")
	learns(t, "in a row", []words.Count{word("abababab", 1)}, 9, "a|b", "ab|ab")
	learns(t, "two words are none", []words.Count{word("a", 5), word("b", 5)}, 9)
}

// P19.1: of MaxToken bytes together at most.
func TestLearnLongTokens(t *testing.T) {
	twice := func(n int) string { return strings.Repeat("a", n/2) + "|" + strings.Repeat("a", n/2) }
	learns(t, "of one byte", []words.Count{word(strings.Repeat("a", 128), 9)}, 99, twice(2), twice(4), twice(8), twice(16), twice(32))
	all := "bcdefghijklmnopqrstuvwxyz01234567"
	for n := range all {
		v := learnt(t, []words.Count{word(all[:n+1], 2)}, 99)
		if len(v.Merges) != min(n, 31) {
			t.Errorf("of %q: %q", all[:n+1], mergesOf(v))
		}
		for _, x := range v.Tokens {
			if len(x.Bytes) > 32 {
				t.Errorf("of %q: the token %q", all[:n+1], x.Bytes)
			}
		}
	}
}

// P19.1: no special token's bytes. (Those of another token no pair of weight has.)
func TestLearnTakenBytes(t *testing.T) {
	l := []words.Count{word("<s>", 9), word("x<s>", 9), word("yz", 2)}
	for _, c := range []struct {
		special string
		want    [][2]string
	}{
		{"<t>", [][2]string{{"<", "s"}, {"<s", ">"}, {"x", "<s>"}, {"y", "z"}}},
		{"<s>", [][2]string{{"<", "s"}, {"x", "<s"}, {"x<s", ">"}, {"y", "z"}}},
	} {
		if v := learnt(t, l, 9, c.special); !same(v, vocabOf(c.want, c.special)) {
			t.Errorf("with %s: %q, not %q", c.special, mergesOf(v), c.want)
		}
	}
}

// P19.1: words of chance, against the chapter's words.
func TestLearnOfChance(t *testing.T) {
	r := rand.New(rand.NewSource(1))
	passed := 0
	for range 1500 {
		l, specials, merges := corpusOf(r, r.Intn(8)), specialsOf(r), r.Intn(40)
		m := modelOf(l, merges, specials)
		if v, want := learnt(t, l, merges, specials...), vocabOf(m.merges, specials...); !same(v, want) {
			t.Fatalf("Learn of %s with %q: %q, not %q", spelt(l), specials, mergesOf(v), m.merges)
		}
		passed += m.passed
	}
	if passed < 1000 {
		t.Errorf("%d pairs of taken bytes", passed)
	}
}

// refuses tells of what is learnt, or refused otherwise.
func refuses(t *testing.T, what string, l []words.Count, merges int, specials []string, want api.Errno) {
	t.Helper()
	if v, e := train.Learn(l, merges, rows(specials)...); e != want || !same(v, api.Vocab{}) {
		t.Errorf("%s: %s and error %d, not %d", what, told(v), e, want)
	}
}

// P19.1
func TestLearnRefuses(t *testing.T) {
	fine := []words.Count{word("ab", 2)}
	for _, n := range []int64{0, -1, -2, math.MinInt64, 1<<32 + 1, 1 << 33, math.MaxInt64} {
		for _, l := range [][]words.Count{{word("ab", n)}, {word("", n)}, {word("ab", 2), word("cd", n)}, {word("ab", n), word("cd", 2)}} {
			refuses(t, "an N", l, 1, nil, api.ErrArg)
		}
	}
	for _, n := range []int{-1, -2, math.MinInt} {
		refuses(t, "merges below 0", fine, n, nil, api.ErrArg)
		refuses(t, "merges below 0, and no words", nil, n, nil, api.ErrArg)
	}
	for _, n := range []int{mostMerges + 1, mostMerges + 2, 1 << 32, math.MaxInt} {
		refuses(t, "too many merges", fine, n, nil, api.ErrLong)
	}
	for _, s := range []string{"", "<", "<>", "<a", "a>", "aaa", "<aa", "aa>", ">a<", "<" + strings.Repeat("a", 31) + ">", " <a>", "<a> ", "<" + strings.Repeat("a", 300) + ">"} {
		for _, specials := range [][]string{{s}, {"<s>", s}, {s, "<s>"}} {
			refuses(t, "no special token", fine, 1, specials, api.ErrToken)
		}
	}
	for _, specials := range [][]string{{"<s>", "<s>"}, {"<a>", "<s>", "<a>"}, {"<a>", "<s>", "<s>"}, {"<>>", "<>>"}} {
		refuses(t, "a special token twice", fine, 1, specials, api.ErrToken)
	}
	for _, specials := range [][]string{{"<s>", "<S>"}, {"<a>", "<aa>"}, {"<>>", "<<>", "<<>>"}, {"<" + strings.Repeat("a", 30) + ">"}} {
		if v := learnt(t, fine, 1, specials...); !same(v, vocabOf([][2]string{{"a", "b"}}, specials...)) {
			t.Errorf("with %q: %s", specials, told(v))
		}
	}
}

// P19.1, Rule 1: of several errors the first one.
func TestLearnFirstError(t *testing.T) {
	long := []words.Count{word(strings.Repeat("a", maxText+1), 1)}
	wrong := append(long, word("a", 0))
	many, bad := manySpecials(65), []string{"a"}
	refuses(t, "merges below 0, and all else", wrong, -1, append(many, "a"), api.ErrArg)
	refuses(t, "an N, and all else", wrong, math.MaxInt, append(many, "a"), api.ErrArg)
	refuses(t, "merges below 0, and long words", long, -1, nil, api.ErrArg)
	refuses(t, "an N, and no special token", []words.Count{word("a", 0)}, 1, bad, api.ErrArg)
	refuses(t, "long words, and no special token", long, 1, bad, api.ErrLong)
	refuses(t, "too many special ones, and one that is none", nil, 1, append(many, "a"), api.ErrLong)
	refuses(t, "too many special ones that are none", nil, 1, make([]string, 65), api.ErrLong)
	refuses(t, "too many merges, and no special token", nil, mostMerges, bad, api.ErrLong)
	refuses(t, "no special token", nil, mostMerges-1, bad, api.ErrToken)
	refuses(t, "no special token among many", nil, 1, append(manySpecials(63), "a"), api.ErrToken)
}

// manySpecials are so many special tokens.
func manySpecials(n int) []string {
	var l []string
	for i := range n {
		l = append(l, "<"+string([]byte{byte('0' + i)})+">")
	}
	return l
}

// P19.1: just so much is allowed.
func TestLearnLimits(t *testing.T) {
	half := strings.Repeat("ab", maxText/4)
	learns(t, "MaxText bytes", []words.Count{word(half, 1), word("", 1), word(half, 1<<32)}, 1, "a|b")
	refuses(t, "a byte more", []words.Count{word(half, 1), word("a", 1), word(half, 1)}, 1, nil, api.ErrLong)
	refuses(t, "a byte more at the end", []words.Count{word(half, 1), word(half, 1), word("a", 1)}, 1, nil, api.ErrLong)
	refuses(t, "a byte more in one", []words.Count{word(half+half+"a", 1)}, 1, nil, api.ErrLong)
	refuses(t, "far more", []words.Count{word(strings.Repeat(half, 99), 1)}, 1, nil, api.ErrLong)
	for _, n := range []int{0, 1, 63, 64} {
		specials := manySpecials(n)
		if v := learnt(t, []words.Count{word("ab", 2)}, mostMerges-n, specials...); !same(v, vocabOf([][2]string{{"a", "b"}}, specials...)) {
			t.Errorf("with %d special tokens: %s", n, told(v))
		}
		refuses(t, "too many merges", nil, mostMerges-n+1, specials, api.ErrLong)
	}
	refuses(t, "too many special ones", nil, 0, manySpecials(65), api.ErrLong)
	refuses(t, "far too many special ones", nil, 0, make([]string, 5000), api.ErrLong)
}

// P19.1, P19.3: as many tokens as may be, of as many bytes as may be, within a time that may be.
func TestLearnMany(t *testing.T) {
	t.Parallel()
	r := rand.New(rand.NewSource(2))
	text := make([]byte, maxText)
	r.Read(text)
	specials := manySpecials(64)
	begun := time.Now()
	v := learnt(t, []words.Count{{Word: text, N: 2}}, mostMerges-64, specials...)
	if took := time.Since(begun); took > time.Minute {
		t.Errorf("it took %v", took)
	}
	if len(v.Tokens) != 4096 || len(v.Merges) != mostMerges-64 || v.Tokens[4031].Score != float64(1-len(v.Merges)) {
		t.Errorf("%d tokens and %d merges", len(v.Tokens), len(v.Merges))
	}
	if p, e := vocab.Check(v); e != api.OK {
		t.Errorf("Check: %v and error %d", p, e)
	}
}
