package vocab_test

import (
	"bytes"
	"math/rand"
	"slices"
	"testing"

	"imprimatur/api"
	"imprimatur/vocab"
)

// changed tells of vocabularies whose changes are others.
func changed(t *testing.T, what string, v, w api.Vocab, want ...vocab.Change) {
	t.Helper()
	if l, e := vocab.Changes(v, w); e != api.OK || !slices.Equal(l, want) {
		t.Errorf("Changes, %s: %v and error %d, not %v", what, l, e, want)
	}
}

func kindOf(kind int, from, to int64) vocab.Change {
	return vocab.Change{Kind: kind, From: from, To: to}
}

// P11.9, P11.10
func TestChanges(t *testing.T) {
	changed(t, "none", letters(), letters())
	changed(t, "none of a small one", small(), small())
	v, w := letters(), letters()
	w.Tokens = append(w.Tokens, special("<a>"), special("<b>"))
	changed(t, "two new ones", v, w, kindOf(2, -1, 256), kindOf(2, -1, 257))
	changed(t, "two gone", w, v, kindOf(1, 256, -1), kindOf(1, 257, -1))
	changed(t, "all that small has", v, small(), kindOf(2, -1, 256), kindOf(2, -1, 257), kindOf(2, -1, 258), kindOf(2, -1, 259), kindOf(2, -1, 260))
	w = letters()
	w.Tokens[5].Score, w.Tokens[255].Score = -1, -0.5
	changed(t, "two scored", v, w, kindOf(4, 5, 5), kindOf(4, 255, 255))
	changed(t, "two scored, the other way round", w, v, kindOf(4, 5, 5), kindOf(4, 255, 255))
	w = letters()
	w.Tokens[5], w.Tokens[255] = w.Tokens[255], w.Tokens[5]
	changed(t, "two moved", v, w, kindOf(5, 255, 5), kindOf(5, 5, 255))
	w.Tokens[255].Score = -3
	changed(t, "two moved, one scored", v, w, kindOf(5, 255, 5), kindOf(4, 5, 255))
	changed(t, "two moved, one scored, the other way round", w, v, kindOf(4, 255, 5), kindOf(5, 5, 255))
	w = small()
	w.Merges = w.Merges[:2]
	w.Tokens = w.Tokens[:260]
	changed(t, "merges alone tell nothing", small(), w, kindOf(1, 260, -1))
}

// P11.9: what is gone comes first, then what there is, by its number; a token of number 0 is one, too.
func TestChangesInOrder(t *testing.T) {
	v, w := small(), small()
	v.Tokens = slices.Insert(v.Tokens, 258, special("<old>"))
	v.Merges[2].To++
	w.Tokens = append(w.Tokens, special("<new>"))
	w.Tokens[0].Score = -1
	changed(t, "some", v, w,
		kindOf(1, 258, -1),
		kindOf(4, 0, 0), kindOf(5, 259, 258), kindOf(5, 260, 259), kindOf(5, 261, 260), kindOf(2, -1, 261))
	v = letters()
	v.Tokens = slices.Insert(v.Tokens, 0, special("<s>"))
	l, e := vocab.Changes(v, letters())
	if e != api.OK || len(l) != 257 || l[0] != kindOf(1, 0, -1) || l[1] != kindOf(5, 1, 0) || l[256] != kindOf(5, 256, 255) {
		t.Errorf("Changes: %v and error %d", l, e)
	}
	l, e = vocab.Changes(letters(), v)
	if e != api.OK || len(l) != 257 || l[0] != kindOf(2, -1, 0) || l[1] != kindOf(5, 0, 1) || l[256] != kindOf(5, 255, 256) {
		t.Errorf("Changes: %v and error %d", l, e)
	}
}

// P11.9: one that is turned is no other change, whatever its score and its number.
func TestChangesTurned(t *testing.T) {
	v, w := letters(), letters()
	v.Tokens = append(v.Tokens, special("<a>"))
	w.Tokens = append(w.Tokens, token("<a", 0), token("<a>", 0))
	w.Merges = []api.Merge{{A: '<', B: 'a', To: 256}, {A: 256, B: '>', To: 257}}
	changed(t, "special no more", v, w, kindOf(2, -1, 256), kindOf(3, 256, 257))
	changed(t, "special now", w, v, kindOf(1, 256, -1), kindOf(3, 257, 256))
	w.Tokens[257].Score = -1
	changed(t, "special no more, and scored", v, w, kindOf(2, -1, 256), kindOf(3, 256, 257))
	w.Tokens[256], w.Tokens[257] = w.Tokens[257], w.Tokens[256]
	w.Merges = []api.Merge{{A: '<', B: 'a', To: 257}, {A: 257, B: '>', To: 256}}
	changed(t, "special no more, in its place", v, w, kindOf(3, 256, 256), kindOf(2, -1, 257))
}

// P11.9: the first one's error, then the second one's.
func TestChangesRefuses(t *testing.T) {
	bad := func(e api.Errno) api.Vocab {
		v := small()
		switch e {
		case api.ErrLong:
			v.Tokens = make([]api.Token, 4097)
		case api.ErrToken:
			v.Tokens[0].Bytes = nil
		case api.ErrScore:
			v.Tokens[0].Score = 1
		case api.ErrAlphabet:
			v.Tokens = nil
		case api.ErrMerge:
			v.Merges[0].A = -1
		case api.ErrRank:
			v.Tokens[257].Score = 0
		}
		return v
	}
	all := []api.Errno{api.OK, api.ErrLong, api.ErrToken, api.ErrScore, api.ErrAlphabet, api.ErrMerge, api.ErrRank}
	for _, a := range all {
		for _, b := range all {
			want := a
			if a == api.OK {
				want = b
			}
			if l, e := vocab.Changes(bad(a), bad(b)); e != want || len(l) != 0 {
				t.Errorf("Changes of one with error %d and one with %d: %v and error %d", a, b, l, e)
			}
		}
	}
}

// toldChanges are the changes, as the document tells them.
func toldChanges(v, w api.Vocab) (l []vocab.Change) {
	place := func(x api.Vocab, b []byte) int {
		return slices.IndexFunc(x.Tokens, func(y api.Token) bool { return bytes.Equal(y.Bytes, b) })
	}
	for i, x := range v.Tokens {
		if place(w, x.Bytes) < 0 {
			l = append(l, kindOf(1, int64(i), -1))
		}
	}
	for to, x := range w.Tokens {
		from := place(v, x.Bytes)
		switch {
		case from < 0:
			l = append(l, kindOf(2, -1, int64(to)))
		case v.Tokens[from].Special != x.Special:
			l = append(l, kindOf(3, int64(from), int64(to)))
		case v.Tokens[from].Score != x.Score:
			l = append(l, kindOf(4, int64(from), int64(to)))
		case from != to:
			l = append(l, kindOf(5, int64(from), int64(to)))
		}
	}
	return l
}

// P11.9, P11.10: turned round each new one is one gone, and each gone one new.
func TestChangesOfChance(t *testing.T) {
	r := rand.New(rand.NewSource(7))
	for range 150 {
		v, w := learnt(r, r.Intn(12)), learnt(r, r.Intn(12))
		changed(t, "of chance", v, w, toldChanges(v, w)...)
		changed(t, "to the same", v, own(v))
		there, _ := vocab.Changes(v, w)
		back, _ := vocab.Changes(w, v)
		if !slices.Equal(numbersOf(there, 1), numbersOf(back, 2)) || !slices.Equal(numbersOf(there, 2), numbersOf(back, 1)) {
			t.Fatalf("turned round: %v and %v", there, back)
		}
	}
}

// numbersOf are the numbers of the tokens that are gone (1) or new (2).
func numbersOf(l []vocab.Change, kind int) (ids []int64) {
	for _, c := range l {
		if c.Kind == kind {
			ids = append(ids, max(c.From, c.To))
		}
	}
	return ids
}
