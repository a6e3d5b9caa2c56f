package vocab_test

import (
	"bytes"
	"math"
	"math/rand"
	"slices"
	"testing"

	"imprimatur/api"
	"imprimatur/vocab"
)

// P11.1
func TestCheck(t *testing.T) {
	right(t, "letters", letters())
	right(t, "small", small())
	right(t, "a chain of merges", chain(31))
	v := letters()
	slices.Reverse(v.Tokens)
	right(t, "letters, the last one first", v)
	v = letters()
	v.Tokens = slices.Insert(v.Tokens, 0, special("<s>"))
	right(t, "a special token ahead of all", v)
	wrong(t, "nothing", api.Vocab{}, 2, 0, api.ErrAlphabet)
	wrong(t, "merges alone", api.Vocab{Merges: small().Merges}, 2, 0, api.ErrAlphabet)
}

// P11.1: at most MaxTokens tokens, and as many merges; this is asked ahead of all.
func TestCheckMany(t *testing.T) {
	right(t, "MaxTokens tokens", pairs(4096-256))
	wrong(t, "a token more", pairs(4096-255), 0, 0, api.ErrLong)
	v := small()
	for len(v.Merges) < 4096 {
		v.Merges = append(v.Merges, api.Merge{A: 'a', B: 'b', To: 256})
	}
	wrong(t, "MaxTokens merges", v, 3, 3, api.ErrMerge)
	v.Merges = append(v.Merges, api.Merge{})
	wrong(t, "a merge more", v, 0, 0, api.ErrLong)
	wrong(t, "tokens without bytes, too many", api.Vocab{Tokens: make([]api.Token, 4097)}, 0, 0, api.ErrLong)
	wrong(t, "tokens without bytes", api.Vocab{Tokens: make([]api.Token, 4096)}, 1, 0, api.ErrToken)
	wrong(t, "merges alone, too many", api.Vocab{Merges: make([]api.Merge, 4097)}, 0, 0, api.ErrLong)
	wrong(t, "merges alone", api.Vocab{Merges: make([]api.Merge, 4096)}, 2, 0, api.ErrAlphabet)
}

// P11.1: how many bytes a token has, and what a special one begins and ends with.
func TestCheckBytes(t *testing.T) {
	with := func(x api.Token) api.Vocab {
		v := letters()
		v.Tokens = slices.Insert(v.Tokens, 7, x)
		return v
	}
	inner := func(n int) string { return "<" + string(bytes.Repeat([]byte("x"), n-2)) + ">" }
	for _, s := range []string{"<x>", "<>>", "<<>", "<\x00>", "<abc>", "<a><b>", inner(31), inner(32)} {
		right(t, "the special token "+s, with(special(s)))
	}
	for _, s := range []string{"", "x", "<", ">", "<>", "<<", "xx", "xxx", "<xx", "xx>", ">x<", "<x> ", " <x>", inner(33), inner(34), inner(1000)} {
		wrong(t, "the special token "+s, with(special(s)), 1, 7, api.ErrToken)
	}
	for _, n := range []int{0, 33, 34, 1000} {
		wrong(t, "a token that is not special", with(api.Token{Bytes: make([]byte, n), Score: -1}), 1, 7, api.ErrToken)
	}
	right(t, "a token of 32 bytes", chain(31))
	wrong(t, "a token of 33 bytes", chain(32), 1, 256+31, api.ErrToken)
	wrong(t, "a token of 32 bytes that nothing makes", with(token(inner(32), -1)), 1, 7, api.ErrToken)
}

// P11.1
func TestCheckScores(t *testing.T) {
	tiny := math.SmallestNonzeroFloat64
	for _, x := range []float64{0, -tiny, -1, -math.MaxFloat64} {
		v := letters()
		v.Tokens[9].Score = x
		right(t, "a score of a letter", v)
	}
	for _, x := range append(noScores(), tiny, 1, math.MaxFloat64) {
		for _, i := range []int{0, 9, 256, 258, 260} {
			v := small()
			v.Tokens[i].Score = x
			wrong(t, "no score", v, 1, i, api.ErrScore)
		}
	}
	for _, x := range []float64{-tiny, -1, -math.MaxFloat64} {
		v := small()
		v.Tokens[259].Score = x
		wrong(t, "the score of a special token", v, 1, 259, api.ErrScore)
	}
}

// P11.1, P11.8: no token has the bytes of one ahead of it.
func TestCheckTwice(t *testing.T) {
	v := small()
	for i, x := range v.Tokens {
		w := own(v)
		w.Tokens = append(w.Tokens, x)
		wrong(t, "a token twice", w, 1, len(v.Tokens), api.ErrToken)
		w.Tokens = slices.Insert(own(v).Tokens, 0, x)
		wrong(t, "a token twice, once ahead of all", w, 1, i+1, api.ErrToken)
	}
	v.Tokens = append(v.Tokens, token("<s>", -1))
	wrong(t, "a special token's bytes", v, 1, 261, api.ErrToken)
	v = small()
	v.Tokens = append(v.Tokens, special("<abc>"), token("<abc>", 0))
	wrong(t, "a special token's bytes once more", v, 1, 262, api.ErrToken)
}

// P11.1, P11.8: a short token for each byte.
func TestCheckAlphabet(t *testing.T) {
	for b := range 256 {
		v := letters()
		v.Tokens = slices.Delete(v.Tokens, b, b+1)
		wrong(t, "a letter short", v, 2, b, api.ErrAlphabet)
		if b < 250 {
			v.Tokens = slices.Delete(v.Tokens, 249, 252)
			wrong(t, "some letters short", v, 2, b, api.ErrAlphabet)
		}
		v = small()
		v.Tokens = slices.Delete(v.Tokens, b, b+1)
		wrong(t, "a letter short, with merges", v, 2, b, api.ErrAlphabet)
	}
}

// P11.1: what a merge may put together, and make.
func TestCheckMerges(t *testing.T) {
	for _, c := range []struct {
		what string
		rank int
		m    api.Merge
	}{
		{"A below 0", 0, api.Merge{A: -1, B: 'b', To: 256}},
		{"A far below 0", 0, api.Merge{A: math.MinInt64, B: 'b', To: 256}},
		{"A of no token", 0, api.Merge{A: 261, B: 'b', To: 256}},
		{"A of no number of 32 binary digits", 0, api.Merge{A: 1<<32 + 'a', B: 'b', To: 256}},
		{"B below 0", 0, api.Merge{A: 'a', B: -1, To: 256}},
		{"B of no token", 0, api.Merge{A: 'a', B: 261, To: 256}},
		{"B far above", 0, api.Merge{A: 'a', B: math.MaxInt64, To: 256}},
		{"To below 0", 0, api.Merge{A: 'a', B: 'b', To: -1}},
		{"To of no token", 0, api.Merge{A: 'a', B: 'b', To: 261}},
		{"To far above", 0, api.Merge{A: 'a', B: 'b', To: math.MaxInt64}},
		{"A special", 0, api.Merge{A: 258, B: 'b', To: 256}},
		{"B special", 0, api.Merge{A: 'a', B: 258, To: 256}},
		{"To special, of its bytes", 1, api.Merge{A: 258, B: 258, To: 259}},
		{"To short", 0, api.Merge{A: 'a', B: 'b', To: 'a'}},
		{"A not made yet", 0, api.Merge{A: 256, B: 'c', To: 257}},
		{"B not made yet", 0, api.Merge{A: 'a', B: 256, To: 257}},
		{"To made of itself", 0, api.Merge{A: 256, B: 'b', To: 256}},
		{"A made behind", 1, api.Merge{A: 257, B: 'c', To: 260}},
		{"other bytes", 0, api.Merge{A: 'a', B: 'c', To: 256}},
		{"bytes the other way round", 0, api.Merge{A: 'b', B: 'a', To: 256}},
		{"bytes of A twice", 0, api.Merge{A: 'a', B: 'a', To: 256}},
		{"more bytes", 1, api.Merge{A: 256, B: 'c', To: 260}},
		{"fewer bytes", 1, api.Merge{A: 256, B: 256, To: 257}},
		{"To made ahead", 1, api.Merge{A: 'a', B: 'b', To: 256}},
	} {
		v := small()
		v.Merges[c.rank] = c.m
		wrong(t, c.what, v, 3, c.rank, api.ErrMerge)
	}
	v := small()
	v.Merges[0], v.Merges[1] = v.Merges[1], v.Merges[0]
	wrong(t, "merges in another order", v, 3, 0, api.ErrMerge)
	v = small()
	v.Merges = append(v.Merges, v.Merges[2])
	wrong(t, "a merge twice", v, 3, 3, api.ErrMerge)
}

// P11.1: a special token is made of nothing, though bytes fit.
func TestCheckMergesOfSpecials(t *testing.T) {
	v := letters()
	v.Tokens = append(v.Tokens, token("<a", -1), special("<a>"))
	v.Merges = []api.Merge{{A: '<', B: 'a', To: 256}, {A: 256, B: '>', To: 257}}
	wrong(t, "a special token made", v, 3, 1, api.ErrMerge)
	v.Tokens[257].Special = false
	v.Tokens[257].Score = -1
	right(t, "the same, not special", v)
	v = letters()
	v.Tokens = append(v.Tokens, special("<a>"), token("<a>b", -1))
	v.Merges = []api.Merge{{A: 256, B: 'b', To: 257}}
	wrong(t, "a special token as a part", v, 3, 0, api.ErrMerge)
	v = letters()
	v.Tokens = append(v.Tokens, special("<a>"), token("b<a>", -1))
	v.Merges = []api.Merge{{A: 'b', B: 256, To: 257}}
	wrong(t, "a special token as the part behind", v, 3, 0, api.ErrMerge)
}

// P11.1: scores fall along the ranks, whatever the numbers of the tokens; those of short ones play no part.
func TestCheckRanks(t *testing.T) {
	scored := func(a, b, c float64) api.Vocab {
		v := small()
		v.Tokens[256].Score, v.Tokens[257].Score, v.Tokens[260].Score = a, b, c
		return v
	}
	tiny := math.SmallestNonzeroFloat64
	right(t, "falling", scored(0, -tiny, -2*tiny))
	right(t, "equal", scored(-3, -3, -3))
	right(t, "equal at the zero", scored(0, 0, 0))
	right(t, "the least", scored(-math.MaxFloat64, -math.MaxFloat64, -math.MaxFloat64))
	wrong(t, "the second above", scored(-2, -1, -3), 3, 1, api.ErrRank)
	wrong(t, "the third above", scored(-1, -3, -2), 3, 2, api.ErrRank)
	wrong(t, "the third above the second, not the first", scored(-1, -4, -3), 3, 2, api.ErrRank)
	wrong(t, "just above", scored(-tiny, 0, 0), 3, 1, api.ErrRank)
	v := scored(0, 0, 0)
	for i := range 256 {
		v.Tokens[i].Score = -100
	}
	right(t, "letters below all", v)
}

// P11.1: what is neither short nor special is made.
func TestCheckOrigins(t *testing.T) {
	v := small()
	v.Merges = v.Merges[:2]
	wrong(t, "without the last merge", v, 1, 260, api.ErrToken)
	v.Merges = v.Merges[:1]
	wrong(t, "without the last two", v, 1, 257, api.ErrToken)
	v.Merges = nil
	wrong(t, "without any", v, 1, 256, api.ErrToken)
	v = letters()
	v.Tokens = slices.Insert(v.Tokens, 0, token("zz", -1))
	wrong(t, "the token 0", v, 1, 0, api.ErrToken)
}

// rule 1, P11.1: of several faults the one that is asked first, and there the first place.
func TestCheckOrder(t *testing.T) {
	faults := []struct {
		kind, index int
		e           api.Errno
		make        func(v *api.Vocab)
	}{
		{1, 3, api.ErrToken, func(v *api.Vocab) { v.Tokens[3].Bytes = nil }},
		{1, 3, api.ErrScore, func(v *api.Vocab) { v.Tokens[3].Score = 1 }},
		{1, 5, api.ErrToken, func(v *api.Vocab) { v.Tokens[5].Bytes = []byte{4} }},
		{1, 6, api.ErrScore, func(v *api.Vocab) { v.Tokens[6].Score = zeroBelow }},
		{1, 6, api.ErrToken, func(v *api.Vocab) { v.Tokens[6].Bytes = []byte{2} }},
		{2, 200, api.ErrAlphabet, func(v *api.Vocab) { v.Tokens[200].Bytes = []byte("no short one") }},
		{2, 201, api.ErrAlphabet, func(v *api.Vocab) { v.Tokens[201].Bytes = []byte("nor this") }},
		{3, 1, api.ErrMerge, func(v *api.Vocab) { v.Merges[1].A = 'x' }},
		{3, 1, api.ErrRank, func(v *api.Vocab) { v.Tokens[257].Score = 0 }},
		{3, 2, api.ErrMerge, func(v *api.Vocab) { v.Merges[2].A = 'x' }},
		{1, 261, api.ErrToken, func(v *api.Vocab) { v.Tokens = append(v.Tokens, token("nothing makes it", 0)) }},
	}
	for some := 1; some < 1<<len(faults); some++ {
		v := small()
		first := -1
		for i, f := range faults {
			if some>>i&1 == 1 {
				f.make(&v)
				if first < 0 {
					first = i
				}
			}
		}
		wrong(t, "several faults", v, faults[first].kind, faults[first].index, faults[first].e)
	}
}

// asked is the first fault, as the document tells it, row by row.
func asked(v api.Vocab) (vocab.Place, api.Errno) {
	at := func(kind, index int) vocab.Place { return vocab.Place{Kind: kind, Index: index} }
	if len(v.Tokens) > 4096 || len(v.Merges) > 4096 {
		return at(0, 0), api.ErrLong
	}
	for i, x := range v.Tokens {
		n := len(x.Bytes)
		if n < 1 || n > 32 || x.Special && (n < 3 || x.Bytes[0] != 60 || x.Bytes[n-1] != 62) {
			return at(1, i), api.ErrToken
		}
		if !(x.Score <= 0) || x.Special && x.Score < 0 || math.IsInf(x.Score, 0) || x.Score == 0 && math.Signbit(x.Score) {
			return at(1, i), api.ErrScore
		}
		if slices.ContainsFunc(v.Tokens[:i], func(y api.Token) bool { return bytes.Equal(x.Bytes, y.Bytes) }) {
			return at(1, i), api.ErrToken
		}
	}
	for b := range 256 {
		if !slices.ContainsFunc(v.Tokens, func(x api.Token) bool { return !x.Special && string(x.Bytes) == string([]byte{byte(b)}) }) {
			return at(2, b), api.ErrAlphabet
		}
	}
	for rank, m := range v.Merges {
		if !askedMerge(v, rank, m) {
			return at(3, rank), api.ErrMerge
		}
		if rank > 0 && v.Tokens[m.To].Score > v.Tokens[v.Merges[rank-1].To].Score {
			return at(3, rank), api.ErrRank
		}
	}
	for i, x := range v.Tokens {
		if !x.Special && len(x.Bytes) != 1 && !madeBelow(v, len(v.Merges), int64(i)) {
			return at(1, i), api.ErrToken
		}
	}
	return at(0, 0), api.OK
}

func askedMerge(v api.Vocab, rank int, m api.Merge) bool {
	for _, id := range []int64{m.A, m.B, m.To} {
		if id < 0 || id >= int64(len(v.Tokens)) || v.Tokens[id].Special {
			return false
		}
	}
	a, b, to := v.Tokens[m.A].Bytes, v.Tokens[m.B].Bytes, v.Tokens[m.To].Bytes
	return (len(a) == 1 || madeBelow(v, rank, m.A)) && (len(b) == 1 || madeBelow(v, rank, m.B)) &&
		len(to) != 1 && !madeBelow(v, rank, m.To) && string(to) == string(a)+string(b)
}

func madeBelow(v api.Vocab, rank int, id int64) bool {
	return slices.ContainsFunc(v.Merges[:rank], func(m api.Merge) bool { return m.To == id })
}

// spoil changes something of a vocabulary.
func spoil(r *rand.Rand, v *api.Vocab) {
	some := func() int { return r.Intn(len(v.Tokens)) }
	number := func() int64 { return int64(r.Intn(len(v.Tokens)+4) - 2) }
	switch i := some(); r.Intn(14) {
	case 0:
		v.Tokens[i].Bytes = v.Tokens[some()].Bytes
	case 1:
		v.Tokens[i].Bytes = slices.Concat(v.Tokens[i].Bytes, v.Tokens[some()].Bytes)
	case 2:
		v.Tokens[i].Score = []float64{1, math.NaN(), math.Inf(-1), zeroBelow, -1, -0.01, 0}[r.Intn(7)]
	case 3:
		v.Tokens[i].Special = !v.Tokens[i].Special
	case 4:
		v.Tokens[i], v.Tokens[some()] = v.Tokens[some()], v.Tokens[i]
	case 5:
		v.Tokens = slices.Delete(v.Tokens, i, i+1)
	case 6:
		v.Tokens = v.Tokens[:len(v.Tokens)-1]
	case 7:
		v.Tokens = append(v.Tokens, token("<a>", 0), special("<x>"))
	default:
		spoilMerges(r, v, number)
	}
}

// spoilMerges changes something of a vocabulary's merges.
func spoilMerges(r *rand.Rand, v *api.Vocab, number func() int64) {
	if len(v.Merges) == 0 {
		return
	}
	i, j := r.Intn(len(v.Merges)), r.Intn(len(v.Merges))
	m := &v.Merges[i]
	switch r.Intn(7) {
	case 0:
		m.A = number()
	case 1:
		m.B = number()
	case 2:
		m.To = number()
	case 3:
		m.A, m.B = m.B, m.A
	case 4:
		v.Merges[i], v.Merges[j] = v.Merges[j], v.Merges[i]
	case 5:
		v.Merges = slices.Insert(v.Merges, j, *m)
	case 6:
		v.Merges = slices.Delete(v.Merges, i, i+1)
	}
}

// P11.1, P1: vocabularies of chance, most of them not well formed.
func TestCheckOfChance(t *testing.T) {
	r := rand.New(rand.NewSource(1))
	seen := map[api.Errno]int{}
	for i := range 3000 {
		v := learnt(r, r.Intn(12))
		for range i % 4 {
			spoil(r, &v)
		}
		p, want := asked(v)
		seen[want]++
		wrong(t, "a vocabulary of chance", v, p.Kind, p.Index, want)
		if t.Failed() {
			t.Fatal(told(v))
		}
	}
	for _, e := range []api.Errno{api.OK, api.ErrToken, api.ErrScore, api.ErrAlphabet, api.ErrMerge, api.ErrRank} {
		if seen[e] < 20 {
			t.Errorf("error %d: %d times", e, seen[e])
		}
	}
}
