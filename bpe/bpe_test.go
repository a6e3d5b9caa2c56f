package bpe_test

import (
	"bytes"
	"math"
	"slices"
	"strings"
	"testing"

	"imprimatur/api"
	"imprimatur/bpe"
	"imprimatur/vocab"
)

// abb is the vocabulary of the chapter's examples: ab is 256, abb 257.
func abb() api.Vocab {
	return merged(merged(letters(), "a", "b", -1), "ab", "b", -2)
}

// P12.1
func TestEncode(t *testing.T) {
	x := tableOf(t, abb())
	encodes(t, x, "")
	encodes(t, x, "abb", 257)
	encodes(t, x, "bab", 'b', 256)
	encodes(t, x, "a", 'a')
	encodes(t, x, "ab", 256)
	encodes(t, x, "ba", 'b', 'a')
	encodes(t, x, "abab", 256, 256)
	encodes(t, x, "abbabbb", 257, 257, 'b')
	encodes(t, x, "aabbb", 'a', 257, 'b')
	encodes(t, x, "\x00\xFF\x80ab\n", 0, 255, 128, 256, 10)
	encodes(t, x, "<ab>", '<', 256, '>')
	x = tableOf(t, letters())
	encodes(t, x, "abb", 'a', 'b', 'b')
}

// P12.1: the lowest rank goes first, wherever it stands.
func TestLowestRankFirst(t *testing.T) {
	x := tableOf(t, merged(merged(letters(), "b", "c", -1), "a", "b", -2)) // bc 256, ab 257
	encodes(t, x, "abc", 'a', 256)
	encodes(t, x, "ab", 257)
	encodes(t, x, "ababcab", 257, 'a', 256, 257)
	x = tableOf(t, merged(merged(letters(), "a", "b", -1), "b", "c", -2)) // ab 256, bc 257
	encodes(t, x, "abc", 256, 'c')
	encodes(t, x, "bcabc", 257, 256, 'c')
	// cd, then abcd of what is made behind, and bc, which is asked last.
	v := merged(merged(merged(merged(letters(), "c", "d", -1), "a", "b", -1), "ab", "cd", -1), "b", "c", -1)
	x = tableOf(t, v)
	encodes(t, x, "abcd", 258)
	encodes(t, x, "abc", 257, 'c')
	encodes(t, x, "bcd", 'b', 256)
	encodes(t, x, "bc", 259)
	encodes(t, x, "bcc", 259, 'c')
}

// P12.1: of several of one rank the first ones are put together.
func TestFirstOnesFirst(t *testing.T) {
	x := tableOf(t, merged(merged(letters(), "a", "a", -1), "aa", "aa", -1)) // aa 256, aaaa 257
	encodes(t, x, "aaa", 256, 'a')
	encodes(t, x, "aaaa", 257)
	encodes(t, x, "aaaaa", 257, 'a')
	encodes(t, x, "aaaaaa", 257, 256)
	encodes(t, x, "aaaaaaa", 257, 256, 'a')
	encodes(t, x, "baaab", 'b', 256, 'a', 'b')
	x = tableOf(t, merged(merged(letters(), "a", "a", -1), "aa", "a", -1)) // aa 256, aaa 257
	encodes(t, x, "aaa", 257)
	encodes(t, x, "aaaa", 256, 256)
	encodes(t, x, "aaaaa", 256, 257)
}

// P12.1: special tokens are pieces by themselves, from the text's beginning on the longest that stands there.
func TestSpecials(t *testing.T) {
	v := with(abb(), "<s>", "<s><s>", "<<s>", "<a>b>") // 258 to 261
	x := tableOf(t, v)
	encodes(t, x, "<s>", 258)
	encodes(t, x, "bab<s>abb", 'b', 256, 258, 257)
	encodes(t, x, "a<s>b", 'a', 258, 'b')
	encodes(t, x, "<s><s>", 259)
	encodes(t, x, "<s><s><s>", 259, 258)
	encodes(t, x, "<s><s><s><s>", 259, 259)
	encodes(t, x, "<s>a<s>", 258, 'a', 258)
	encodes(t, x, "<<s><s>", 260, 258)
	encodes(t, x, "<<<s>", '<', 260)
	encodes(t, x, "<a>b>", 261)
	encodes(t, x, "<a>b", '<', 'a', '>', 'b')
	encodes(t, x, "<s", '<', 's')
	encodes(t, x, "s>", 's', '>')
	encodes(t, x, "ab<s>ab", 256, 258, 256)
	encodes(t, x, "ab<s>", 256, 258)
	encodes(t, x, "<s>ab", 258, 256)
	// The one that begins first is the piece, though a longer one begins in it.
	x = tableOf(t, with(letters(), "<a>", "<b<a>", "<a>c<a>"))
	encodes(t, x, "<b<a>c<a>", 257, 'c', 256)
	encodes(t, x, "<b<c<a>", '<', 'b', '<', 'c', 256)
}

// P12.1: what is special is not put together with anything, though its bytes might be.
func TestSpecialsAreNoParts(t *testing.T) {
	v := merged(merged(merged(letters(), "<", "s", -1), ">", "a", -1), "a", "<", -1)
	x := tableOf(t, with(v, "<s>")) // <s 256, >a 257, a< 258, <s> 259
	encodes(t, x, "a<s>a", 'a', 259, 'a')
	encodes(t, x, "a<sa", 'a', 256, 'a')
	encodes(t, x, ">a<", 257, '<')
}

// P12.1: all of the text is one stretch.
func TestStretch(t *testing.T) {
	x := tableOf(t, merged(merged(with(letters(), "<s>"), "<", "s", -1), "a", "<s", -2)) // <s> 256, <s 257, a<s 258
	for _, c := range []struct {
		text string
		want []int64
	}{
		{"", nil}, {"<s>", []int64{257, '>'}}, {"a<s>a<s", []int64{258, '>', 258}}, {"aa", []int64{'a', 'a'}},
	} {
		got, e := bpe.Stretch(x, []byte(c.text))
		told(t, "Stretch", []byte(c.text), got, e, c.want)
	}
	got, e := bpe.Stretch(x, nil)
	told(t, "Stretch", nil, got, e, nil)
}

// P12.1, P12.2: at most MaxText bytes and numbers.
func TestLong(t *testing.T) {
	x := tableOf(t, with(merged(letters(), "a", "a", -1), "<s>"))
	text := bytes.Repeat([]byte{'a'}, maxText)
	want := slices.Repeat([]int64{256}, maxText/2)
	got, e := bpe.Encode(x, text)
	told(t, "Encode", nil, got, e, want)
	got, e = bpe.Stretch(x, text)
	told(t, "Stretch", nil, got, e, want)
	for _, n := range []int{maxText + 1, maxText + 2, 1 << 20} {
		text = bytes.Repeat([]byte{'a'}, n)
		if got, e = bpe.Encode(x, text); e != api.ErrLong || len(got) != 0 {
			t.Errorf("Encode of %d bytes: %d numbers and error %d", n, len(got), e)
		}
		if got, e = bpe.Stretch(x, text); e != api.ErrLong || len(got) != 0 {
			t.Errorf("Stretch of %d bytes: %d numbers and error %d", n, len(got), e)
		}
		for _, id := range []int64{'a', -1} {
			ids := slices.Repeat([]int64{id}, n)
			if b, e := bpe.Decode(x, ids); e != api.ErrLong || len(b) != 0 {
				t.Errorf("Decode of %d numbers: %d bytes and error %d", n, len(b), e)
			}
			if c, e := bpe.Cost(x, ids); e != api.ErrLong || c != 0 {
				t.Errorf("Cost of %d numbers: %v and error %d", n, c, e)
			}
		}
	}
	ids := slices.Repeat([]int64{256}, maxText)
	if b, e := bpe.Decode(x, ids); e != api.OK || string(b) != strings.Repeat("aa", maxText) {
		t.Errorf("Decode of MaxText numbers: %d bytes and error %d", len(b), e)
	}
	if c, e := bpe.Cost(x, ids); e != api.OK || c != -maxText {
		t.Errorf("Cost of MaxText numbers: %v and error %d", c, e)
	}
}

// P12.1, P12.2: there is no table; one that was not built is as none.
func TestNoTable(t *testing.T) {
	for _, x := range []*vocab.Table{nil, {}} {
		for _, n := range []int{0, 1, 5, maxText, maxText + 1} {
			if l, e := bpe.Encode(x, make([]byte, n)); e != api.ErrNil || len(l) != 0 {
				t.Errorf("Encode: %v and error %d", l, e)
			}
			if l, e := bpe.Stretch(x, make([]byte, n)); e != api.ErrNil || len(l) != 0 {
				t.Errorf("Stretch: %v and error %d", l, e)
			}
			if b, e := bpe.Decode(x, make([]int64, n)); e != api.ErrNil || len(b) != 0 {
				t.Errorf("Decode: %v and error %d", b, e)
			}
			if c, e := bpe.Cost(x, make([]int64, n)); e != api.ErrNil || c != 0 {
				t.Errorf("Cost: %v and error %d", c, e)
			}
		}
	}
}

// P12.2
func TestDecode(t *testing.T) {
	x := tableOf(t, with(abb(), "<s>"))
	for _, c := range []struct {
		text string
		ids  []int64
	}{
		{"", nil}, {"", []int64{}}, {"abb", []int64{257}}, {"abb", []int64{'a', 'b', 'b'}}, {"abb", []int64{256, 'b'}}, {"<s>", []int64{258}},
		{"<s>", []int64{'<', 's', '>'}}, {"ab<s>abb\x00\xFF", []int64{256, 258, 257, 0, 255}}, {"babab", []int64{'b', 256, 256}},
	} {
		if b, e := bpe.Decode(x, c.ids); e != api.OK || string(b) != c.text {
			t.Errorf("Decode(%v): %q and error %d, not %q", c.ids, b, e, c.text)
		}
	}
	for _, id := range []int64{-1, -2, 259, 260, 1 << 32, 1<<32 + 1, math.MinInt64, math.MaxInt64} {
		for _, ids := range [][]int64{{id}, {id, 'a'}, {'a', id}, {'a', id, 'b'}, {id, id}} {
			if b, e := bpe.Decode(x, ids); e != api.ErrText || len(b) != 0 {
				t.Errorf("Decode(%v): %q and error %d", ids, b, e)
			}
			if c, e := bpe.Cost(x, ids); e != api.ErrText || c != 0 {
				t.Errorf("Cost(%v): %v and error %d", ids, c, e)
			}
		}
	}
}

// P12.2
func TestCost(t *testing.T) {
	v := with(abb(), "<s>")
	v.Tokens['c'].Score = -0.5
	v.Tokens['d'].Score = -math.MaxFloat64
	v.Tokens['e'].Score = -1e308
	v.Tokens['f'].Score = -0.1
	x := tableOf(t, v)
	for _, c := range []struct {
		want float64
		ids  []int64
	}{
		{0, nil}, {0, []int64{'a', 'b', 258}}, {-1, []int64{256}}, {-2, []int64{257}}, {-3.5, []int64{256, 257, 'c'}}, {-2, []int64{256, 256, 'a'}},
		{-math.MaxFloat64, []int64{'d'}}, {-math.MaxFloat64, []int64{'d', 256}}, {-1e308, []int64{'e', 'a'}},
		{math.Float64frombits(0xBFD3333333333334), []int64{'f', 'f', 'f'}}, // each sum is rounded
	} {
		got, e := bpe.Cost(x, c.ids)
		if e != api.OK || math.Float64bits(got) != math.Float64bits(c.want) {
			t.Errorf("Cost(%v): %v and error %d, not %v", c.ids, got, e, c.want)
		}
	}
	for _, ids := range [][]int64{{'d', 'd'}, {'e', 'e'}, {'e', 'a', 'e'}, {'d', 256, 'd', 256}} {
		if got, e := bpe.Cost(x, ids); e != api.ErrScore || math.Float64bits(got) != 0 {
			t.Errorf("Cost(%v): %v and error %d", ids, got, e)
		}
		if got, e := bpe.Cost(x, append(ids, -1)); e != api.ErrText || got != 0 {
			t.Errorf("Cost(%v), and no token: %v and error %d", ids, got, e)
		}
	}
}

// rule 3: what is handed in is not changed.
func TestMemory(t *testing.T) {
	x := tableOf(t, with(abb(), "<s>"))
	text := []byte("abb<s>bab")
	ids, _ := bpe.Encode(x, text)
	bpe.Stretch(x, text)
	if string(text) != "abb<s>bab" {
		t.Errorf("the text is now %q", text)
	}
	was := slices.Clone(ids)
	b, _ := bpe.Decode(x, ids)
	bpe.Cost(x, ids)
	if !slices.Equal(ids, was) {
		t.Errorf("the numbers are now %v", ids)
	}
	clear(b)
	one, _ := bpe.Decode(x, []int64{257})
	clear(one)
	encodes(t, x, "abb<s>bab", was...)
}
