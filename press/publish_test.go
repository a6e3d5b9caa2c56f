package press_test

import (
	"bytes"
	"math"
	"slices"
	"testing"

	"imprimatur/api"
	"imprimatur/press"
	"imprimatur/vocab"
)

// publishes tells of an issue whose edition is another one.
func publishes(t *testing.T, what string, i press.Issue, keys [4]press.Keys) {
	t.Helper()
	x, e := press.Publish(i, keys)
	if e != api.OK {
		t.Errorf("%s: Publish: error %d", what, e)
		return
	}
	same(t, what, x, editionOf(i, keys))
}

// refuses tells of an issue that is not refused so.
func refuses(t *testing.T, what string, want api.Errno, i press.Issue, keys [4]press.Keys) {
	t.Helper()
	x, e := press.Publish(i, keys)
	if e != want {
		t.Errorf("%s: Publish: error %d, not %d", what, e, want)
	}
	same(t, what, x, press.Edition{})
}

// P16.2
func TestPublish(t *testing.T) {
	publishes(t, "an issue", usual(1), four(1))
	publishes(t, "letters alone", press.Issue{Version: 1, Expires: 9, Chunk: 1000, Vocab: letters()}, four(1))
	for _, v := range []int64{1, 2, 191, 192, 1 << 32, most - 1, most} {
		i := usual(3)
		i.Version = v
		publishes(t, "a version", i, four(1))
	}
	for _, x := range []int64{0, 1, 191, 192, 1 << 32, most - 1, most} {
		i := usual(3)
		i.Expires = x
		publishes(t, "an expiry", i, four(1))
	}
	for _, c := range []int64{64, 65, 100, 512, 1023, 1024} {
		i := usual(3)
		i.Chunk = c
		publishes(t, "a chunk size", i, four(1))
	}
}

// P16.2: each record is sealed by all seeds of its own Keys, in order, as often as they stand there, however many must sign.
func TestPublishSeals(t *testing.T) {
	keys := [4]press.Keys{keysOf(1, 1), keysOf(2, 9, 8, 7), keysOf(1, 5, 3, 5, 4), keysOf(3, 11, 10, 12)}
	publishes(t, "more seeds", usual(1), keys)
	for i := range 4 {
		keys := four(1)
		for _, need := range append([]int64{0, 2, 17}, ends...) {
			keys[i].Need = need
			publishes(t, "a Need that is no role's", usual(1), keys)
		}
		keys[i].Seeds = nil
		publishes(t, "no seeds", usual(1), keys)
		keys[i].Seeds = seedsFrom(1, 32)
		publishes(t, "MaxSigs seeds", usual(1), keys)
		slices.Reverse(keys[i].Seeds)
		publishes(t, "turned round", usual(1), keys)
		keys[i].Seeds = slices.Repeat(seeds(4), 32)
		publishes(t, "one seed, MaxSigs times", usual(1), keys)
	}
	publishes(t, "no Keys", usual(1), [4]press.Keys{})
	keys = four(1)
	keys[0] = press.Keys{Seeds: [][]byte{{1}, nil}, Need: -1}
	publishes(t, "those for roots seal nothing, and are not asked for", usual(1), keys)
	keys[0].Seeds = seedsFrom(1, 33)
	publishes(t, "however many they are", usual(1), keys)
}

// P16.2: the errors of Check.
func TestPublishNoVocabulary(t *testing.T) {
	with := func(change func(v *api.Vocab)) press.Issue {
		i := usual(1)
		change(&i.Vocab)
		return i
	}
	for _, x := range []struct {
		what   string
		want   api.Errno
		change func(v *api.Vocab)
	}{
		{"nothing", api.ErrAlphabet, func(v *api.Vocab) { *v = api.Vocab{} }},
		{"a letter short", api.ErrAlphabet, func(v *api.Vocab) { v.Tokens = letters().Tokens[1:]; v.Merges = nil }},
		{"too many tokens", api.ErrLong, func(v *api.Vocab) { v.Tokens = make([]api.Token, 4097) }},
		{"too many merges", api.ErrLong, func(v *api.Vocab) { v.Merges = make([]api.Merge, 4097) }},
		{"a token without bytes", api.ErrToken, func(v *api.Vocab) { v.Tokens[3].Bytes = nil }},
		{"a token twice", api.ErrToken, func(v *api.Vocab) { v.Tokens = append(v.Tokens, v.Tokens[5]) }},
		{"a token that nothing makes", api.ErrToken, func(v *api.Vocab) { v.Merges = v.Merges[:3] }},
		{"no score", api.ErrScore, func(v *api.Vocab) { v.Tokens[3].Score = math.NaN() }},
		{"a score above 0", api.ErrScore, func(v *api.Vocab) { v.Tokens[3].Score = 1 }},
		{"a merge of no token", api.ErrMerge, func(v *api.Vocab) { v.Merges[1].A = -1 }},
		{"a merge of tokens elsewhere", api.ErrMerge, func(v *api.Vocab) { v.Merges[1].A = 9 }},
		{"scores that rise", api.ErrRank, func(v *api.Vocab) { v.Tokens[258].Score = 0 }},
	} {
		refuses(t, x.what, x.want, with(x.change), four(1))
	}
}

// P16.2: Write's error, of a vocabulary that is well formed, and the greatest one that has none.
func TestPublishGreatVocabularies(t *testing.T) {
	i := usual(2)
	i.Vocab = sized(api.MaxBundle)
	if n := len(must(vocab.Write(i.Vocab))); n != api.MaxBundle {
		t.Fatalf("%d bytes", n)
	}
	publishes(t, "MaxBundle bytes", i, four(1))
	i.Chunk = 64
	publishes(t, "MaxBundle bytes, the most chunks", i, four(1))
	for _, more := range []int{1, 2, 48, 10000} {
		i.Vocab = sized(api.MaxBundle + more)
		if _, e := vocab.Check(i.Vocab); e != api.OK {
			t.Fatalf("Check: error %d", e)
		}
		refuses(t, "more than MaxBundle bytes", api.ErrLong, i, four(1))
	}
}

// P16.2
func TestPublishBounds(t *testing.T) {
	for _, c := range append([]int64{0, 1, 63, 1025, 1 << 32, most}, ends...) {
		i := usual(1)
		i.Chunk = c
		refuses(t, "no chunk size", api.ErrArg, i, four(1))
	}
	i := usual(1)
	i.Version = 0
	refuses(t, "the version 0", api.ErrMeta, i, four(1))
	for _, x := range ends {
		i := usual(1)
		i.Version = x
		refuses(t, "no version", api.ErrMeta, i, four(1))
		i = usual(1)
		i.Expires = x
		refuses(t, "no expiry", api.ErrMeta, i, four(1))
	}
}

// P16.2: Seal's errors, of each of the three.
func TestPublishNoSeeds(t *testing.T) {
	for k := 1; k < 4; k++ {
		keys := four(1)
		for _, n := range []int{33, 34, 1000} {
			keys[k].Seeds = seedsFrom(1, n)
			refuses(t, "too many seeds", api.ErrLong, usual(1), keys)
		}
		for _, size := range noSeeds {
			for at := range 3 {
				keys[k].Seeds = slices.Insert(seeds(1, 2), at, make([]byte, size))
				refuses(t, "a seed that is none", api.ErrArg, usual(1), keys)
			}
			keys[k].Seeds = append(seedsFrom(1, 32), make([]byte, size))
			refuses(t, "too many seeds, one of which is none", api.ErrArg, usual(1), keys)
		}
	}
}

// P16.2: the error that is named first; of those of the seals that of the targets record, then that of the snapshot.
func TestPublishErrorsInOrder(t *testing.T) {
	type change func(i *press.Issue, keys *[4]press.Keys)
	long := func(k int) change {
		return func(i *press.Issue, keys *[4]press.Keys) { keys[k].Seeds = seedsFrom(1, 33) }
	}
	short := func(k int) change {
		return func(i *press.Issue, keys *[4]press.Keys) { keys[k].Seeds = [][]byte{make([]byte, 31)} }
	}
	for _, row := range [][]struct {
		want   api.Errno
		change change
	}{
		{
			{api.ErrScore, func(i *press.Issue, keys *[4]press.Keys) { i.Vocab.Tokens[0].Score = 1 }},
			{api.ErrLong, func(i *press.Issue, keys *[4]press.Keys) { i.Vocab = sized(api.MaxBundle + 1) }},
			{api.ErrArg, func(i *press.Issue, keys *[4]press.Keys) { i.Chunk = 63 }},
			{api.ErrMeta, func(i *press.Issue, keys *[4]press.Keys) { i.Version = 0 }},
			{api.ErrLong, long(3)},
			{api.ErrArg, short(2)},
			{api.ErrLong, long(1)},
		},
		{
			{api.ErrMeta, func(i *press.Issue, keys *[4]press.Keys) { i.Expires = -1 }},
			{api.ErrArg, short(3)},
			{api.ErrLong, long(2)},
			{api.ErrArg, short(1)},
		},
	} {
		for first := range row {
			i, keys := usual(1), four(1)
			for at := len(row) - 1; at >= first; at-- { // all of those behind it are there, too
				row[at].change(&i, &keys)
			}
			refuses(t, "some errors", row[first].want, i, keys)
			for second := first + 1; second < len(row); second++ {
				i, keys := usual(1), four(1)
				row[second].change(&i, &keys)
				row[first].change(&i, &keys)
				refuses(t, "two errors", row[first].want, i, keys)
			}
		}
	}
}

// P16.2: what has expired is published as well, and what is no older issue's plays no part.
func TestPublishAgain(t *testing.T) {
	x := must(press.Publish(usual(5), four(1)))
	old := usual(4)
	old.Expires = 0
	publishes(t, "an older one", old, four(1))
	if y := must(press.Publish(usual(5), four(2))); bytes.Equal(x.Stamp, y.Stamp) || !bytes.Equal(x.Bundle, y.Bundle) {
		t.Error("by other keys the same is published, or another bundle")
	}
}
