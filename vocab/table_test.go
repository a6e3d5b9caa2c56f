package vocab_test

import (
	"bytes"
	"math"
	"math/rand"
	"slices"
	"strings"
	"testing"

	"imprimatur/api"
	"imprimatur/vocab"
)

// far are numbers of no token of so many.
func far(size int) []int64 {
	n := int64(size)
	return []int64{-1, -2, math.MinInt64, n, n + 1, 1 << 32, 1<<32 + 1, math.MaxInt64 - 1, math.MaxInt64}
}

// P11.3
func TestBuild(t *testing.T) {
	for _, v := range []api.Vocab{letters(), small(), chain(31), pairs(3840)} {
		x := built(t, v)
		if n := x.Size(); n != len(v.Tokens) {
			t.Errorf("Size: %d, not %d", n, len(v.Tokens))
		}
		for i, want := range v.Tokens {
			if got, e := x.Token(int64(i)); e != api.OK || !sameToken(got, want) {
				t.Fatalf("Token %d: %v and error %d, not %v", i, got, e, want)
			}
			if id, ok := x.Find(want.Bytes); !ok || id != int64(i) {
				t.Fatalf("Find(%q): %d and %v, not %d", want.Bytes, id, ok, i)
			}
		}
		for _, id := range far(len(v.Tokens)) {
			if got, e := x.Token(id); e != api.ErrText || !sameToken(got, api.Token{}) {
				t.Errorf("Token %d of %d: %v and error %d", id, len(v.Tokens), got, e)
			}
		}
	}
}

// P11.3: of bytes of no token there is none.
func TestFind(t *testing.T) {
	x := built(t, small())
	for _, s := range []string{"", "ba", "a ", " a", "abca", "aba", "<s", "s>", "<s><s><s>", strings.Repeat("ab", 16), strings.Repeat("x", 1<<17)} {
		if id, ok := x.Find([]byte(s)); ok || id != 0 {
			t.Errorf("Find(%q): %d and %v", s, id, ok)
		}
	}
	if id, ok := x.Find(nil); ok || id != 0 {
		t.Errorf("Find of nil: %d and %v", id, ok)
	}
}

// P11.3
func TestBuildRefuses(t *testing.T) {
	r := rand.New(rand.NewSource(4))
	refused := 0
	for i := range 400 {
		v := learnt(r, r.Intn(12))
		for range i % 4 {
			spoil(r, &v)
		}
		_, want := vocab.Check(v)
		x, e := vocab.Build(v)
		if e != want || (x == nil) != (want != api.OK) {
			t.Fatalf("Build: error %d, not %d, and a table: %v", e, want, x != nil)
		}
		if want != api.OK {
			refused++
		}
	}
	if refused < 100 {
		t.Errorf("%d were refused", refused)
	}
	for _, v := range []api.Vocab{{}, pairs(3841), chain(32)} {
		_, want := vocab.Check(v)
		if x, e := vocab.Build(v); x != nil || e != want || e == api.OK {
			t.Errorf("Build: error %d, not %d", e, want)
		}
	}
}

// P11.4
func TestPair(t *testing.T) {
	r := rand.New(rand.NewSource(5))
	for _, v := range []api.Vocab{letters(), small(), chain(31), learnt(r, 5), learnt(r, 12), learnt(r, 30)} {
		x := built(t, v)
		ranks := map[[2]int64]int{}
		for rank, m := range v.Merges {
			ranks[[2]int64{m.A, m.B}] = rank
			if got, to, ok := x.Pair(m.A, m.B); !ok || got != rank || to != m.To {
				t.Errorf("Pair(%d, %d): %d, %d, %v, not %d, %d", m.A, m.B, got, to, ok, rank, m.To)
			}
		}
		for a := range v.Tokens {
			for b := range v.Tokens {
				if _, ok := ranks[[2]int64{int64(a), int64(b)}]; !ok {
					unpaired(t, x, int64(a), int64(b))
				}
			}
		}
	}
	x := built(t, small())
	for _, n := range far(261) {
		unpaired(t, x, n, 'b')
		unpaired(t, x, 'a', n)
		unpaired(t, x, n, n)
	}
	unpaired(t, x, 'b', 'a')
	unpaired(t, x, 'a', 'c')
	unpaired(t, x, 1<<32+'a', 'b')
	unpaired(t, x, 'a', 1<<32+'b')
}

// unpaired tells of two tokens that have a merge.
func unpaired(t *testing.T, x *vocab.Table, a, b int64) {
	t.Helper()
	if rank, to, ok := x.Pair(a, b); rank != 0 || to != 0 || ok {
		t.Errorf("Pair(%d, %d): %d, %d, %v", a, b, rank, to, ok)
	}
}

// P11.4
func TestSpecial(t *testing.T) {
	long := "<" + strings.Repeat("a", 30) + ">"
	v := small() // <s> is 258, <s><s> is 259
	v.Tokens = append(v.Tokens, special("<>>"), special("<<s>"), special(long), token("<t", -3), token("<t>", -3), special("<t>u>"))
	v.Merges = append(v.Merges, api.Merge{A: '<', B: 't', To: 264}, api.Merge{A: 264, B: '>', To: 265})
	x := built(t, v)
	for _, c := range []struct {
		text string
		id   int64
		n    int
	}{
		{"<s>", 258, 3}, {"<s>x", 258, 3}, {"<s><s", 258, 3}, {"<s><s>", 259, 6}, {"<s><s><s><s>", 259, 6}, {"<s>" + strings.Repeat("<s>", 1000), 259, 6},
		{"<>>", 261, 3}, {"<>>>", 261, 3}, {"<<s>", 262, 4}, {"<<s><s>", 262, 4}, {long, 263, 32}, {long + ">", 263, 32},
		{"<t>u>", 266, 5}, {"<t>u>>", 266, 5},
		{"", 0, 0}, {"<", 0, 0}, {"<s", 0, 0}, {"s>", 0, 0}, {">", 0, 0}, {"x<s>", 0, 0}, {" <s>", 0, 0}, {"<<", 0, 0}, {"<<>", 0, 0}, {"<>", 0, 0},
		{"<S>", 0, 0}, {"<t>", 0, 0}, {"<t>u", 0, 0}, {"<t", 0, 0}, {"ab", 0, 0}, {long[:31], 0, 0}, {long[:31] + "a>", 0, 0},
	} {
		if id, n := x.Special([]byte(c.text)); id != c.id || n != c.n {
			t.Errorf("Special(%q): %d and %d, not %d and %d", c.text, id, n, c.id, c.n)
		}
	}
	for _, s := range []string{"", "<", "<s>", "<s><s>", long} {
		if id, n := built(t, letters()).Special([]byte(s)); id != 0 || n != 0 {
			t.Errorf("Special(%q), there being none: %d and %d", s, id, n)
		}
	}
}

// P11.4: the one of the number 0 is told by its bytes.
func TestSpecialOfNumberZero(t *testing.T) {
	v := letters()
	v.Tokens = slices.Insert(v.Tokens, 0, special("<s>"))
	if id, n := built(t, v).Special([]byte("<s>")); id != 0 || n != 3 {
		t.Errorf("Special: %d and %d", id, n)
	}
}

// longestOf is the special token that bytes begin with, as the document tells it.
func longestOf(v api.Vocab, b []byte) (id int64, n int) {
	for i, x := range v.Tokens {
		if x.Special && bytes.HasPrefix(b, x.Bytes) && len(x.Bytes) > n {
			id, n = int64(i), len(x.Bytes)
		}
	}
	return id, n
}

// P11.4
func TestSpecialOfChance(t *testing.T) {
	r := rand.New(rand.NewSource(6))
	found := 0
	for range 200 {
		v := learnt(r, 6)
		x := built(t, v)
		for range 50 {
			b := make([]byte, r.Intn(12))
			for i := range b {
				b[i] = "<a>b"[min(r.Intn(4), i)]
			}
			id, n := x.Special(b)
			if wantID, want := longestOf(v, b); id != wantID || n != want {
				t.Fatalf("Special(%q): %d and %d, not %d and %d", b, id, n, wantID, want)
			}
			if n > 0 {
				found++
			}
		}
	}
	if found < 500 {
		t.Errorf("%d were found", found)
	}
}

// P11.3, P1: a nil table, and one that was not built.
func TestNoTable(t *testing.T) {
	for _, x := range []*vocab.Table{nil, {}} {
		if n := x.Size(); n != 0 {
			t.Errorf("Size: %d", n)
		}
		for _, id := range append(far(0), 1, 97) {
			if got, e := x.Token(id); e != api.ErrText || !sameToken(got, api.Token{}) {
				t.Errorf("Token: %v and error %d", got, e)
			}
			unpaired(t, x, id, 'b')
		}
		for _, b := range [][]byte{nil, {}, {'a'}, []byte("<s>")} {
			if id, ok := x.Find(b); ok || id != 0 {
				t.Errorf("Find: %d and %v", id, ok)
			}
			if id, n := x.Special(b); id != 0 || n != 0 {
				t.Errorf("Special: %d and %d", id, n)
			}
		}
	}
}

// rule 3: what is handed in is neither changed nor kept; what is answered is new memory.
func TestMemory(t *testing.T) {
	v, was := small(), small()
	x := built(t, v)
	b, _ := vocab.Write(v)
	vocab.Changes(v, v)
	vocab.Check(v)
	if !same(v, was) {
		t.Fatal("what was handed in is changed")
	}
	for i := range v.Tokens {
		clear(v.Tokens[i].Bytes)
	}
	clear(v.Tokens)
	clear(v.Merges)
	for i, want := range was.Tokens {
		got, e := x.Token(int64(i))
		if e != api.OK || !sameToken(got, want) {
			t.Fatalf("Token %d: %v and error %d: the table keeps what was handed in", i, got, e)
		}
		clear(got.Bytes)
		if again, _ := x.Token(int64(i)); !sameToken(again, want) {
			t.Fatalf("Token %d: %v: the table hands out what it keeps", i, again)
		}
	}
	if rank, to, ok := x.Pair(256, 'c'); rank != 1 || to != 257 || !ok {
		t.Error("Pair: the table keeps what was handed in")
	}
	if !bytes.Equal(b, bytesOf(was)) {
		t.Error("Write answers what was handed in")
	}
	w, _ := vocab.Read(b)
	l, _ := vocab.Load(b)
	clear(b)
	if !same(w, was) || !same(l, was) {
		t.Error("Read answers what was handed in")
	}
	for i := range w.Tokens {
		w.Tokens[i].Bytes = append(w.Tokens[i].Bytes, 'z') // no further than its own
		if i > 0 && !sameToken(w.Tokens[i-1], token(string(was.Tokens[i-1].Bytes)+"z", was.Tokens[i-1].Score)) && !was.Tokens[i-1].Special {
			t.Fatal("tokens that were read share memory")
		}
	}
}
