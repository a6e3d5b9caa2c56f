package vocab_test

import (
	"bytes"
	"math"
	"math/rand"
	"slices"
	"testing"

	"imprimatur/api"
	"imprimatur/vocab"
)

// count is a count's bytes, as another program writes them.
func count(n uint64) []byte {
	if n < 192 {
		return []byte{byte(n)}
	}
	b := []byte{}
	for ; n > 0; n >>= 8 {
		b = append([]byte{byte(n)}, b...)
	}
	return append([]byte{byte(191 + len(b))}, b...)
}

func num(n uint64) []byte { return append([]byte{1}, count(n)...) }

func raw(b []byte) []byte { return slices.Concat([]byte{2}, count(uint64(len(b))), b) }

func list(l ...[]byte) []byte {
	return append(append([]byte{3}, count(uint64(len(l)))...), slices.Concat(l...)...)
}

func scoreBytes(x float64) []byte {
	b := make([]byte, 8)
	for i := range b {
		b[i] = byte(math.Float64bits(x) >> (56 - 8*i))
	}
	return b
}

func tokenBytes(x api.Token) []byte {
	is := uint64(0)
	if x.Special {
		is = 1
	}
	return list(raw(x.Bytes), raw(scoreBytes(x.Score)), num(is))
}

func mergeBytes(m api.Merge) []byte {
	return list(num(uint64(m.A)), num(uint64(m.B)), num(uint64(m.To)))
}

// bytesOf are a vocabulary's bytes, as another program writes them.
func bytesOf(v api.Vocab) []byte {
	var tokens, merges [][]byte
	for _, x := range v.Tokens {
		tokens = append(tokens, tokenBytes(x))
	}
	for _, m := range v.Merges {
		merges = append(merges, mergeBytes(m))
	}
	return list(list(tokens...), list(merges...))
}

// written tells of a vocabulary that is not written so, or not read as it was.
func written(t *testing.T, what string, v api.Vocab, want []byte) {
	t.Helper()
	b, e := vocab.Write(v)
	if e != api.OK || !bytes.Equal(b, want) {
		t.Fatalf("Write, %s: %d bytes and error %d, not %d", what, len(b), e, len(want))
	}
	w, e := vocab.Read(want)
	if e != api.OK || !same(v, w) {
		t.Fatalf("Read, %s: %s and error %d, not %s", what, told(w), e, told(v))
	}
}

// unwritten tells of a vocabulary that is not refused so.
func unwritten(t *testing.T, what string, v api.Vocab, want api.Errno) {
	t.Helper()
	if b, e := vocab.Write(v); e != want || len(b) != 0 {
		t.Errorf("Write, %s: %d bytes and error %d, not %d", what, len(b), e, want)
	}
}

// unread tells of bytes that are read.
func unread(t *testing.T, what string, b []byte) {
	t.Helper()
	if v, e := vocab.Read(b); e != api.ErrForm || !same(v, api.Vocab{}) {
		t.Errorf("Read, %s: %s and error %d", what, told(v), e)
	}
	unloaded(t, what, b, api.ErrForm)
}

// unloaded tells of bytes that are not refused so.
func unloaded(t *testing.T, what string, b []byte, want api.Errno) {
	t.Helper()
	if v, e := vocab.Load(b); e != want || !same(v, api.Vocab{}) {
		t.Errorf("Load, %s: %s and error %d, not %d", what, told(v), e, want)
	}
}

// P11.2
func TestWrite(t *testing.T) {
	written(t, "nothing", api.Vocab{}, []byte{3, 2, 3, 0, 3, 0})
	v := api.Vocab{Tokens: []api.Token{token("ab", -2), special("<s>")}, Merges: []api.Merge{{A: 1, B: 192, To: 65536}}}
	written(t, "some", v, []byte{
		3, 2,
		3, 2,
		3, 3, 2, 2, 'a', 'b', 2, 8, 0xC0, 0, 0, 0, 0, 0, 0, 0, 1, 0,
		3, 3, 2, 3, '<', 's', '>', 2, 8, 0, 0, 0, 0, 0, 0, 0, 0, 1, 1,
		3, 1,
		3, 3, 1, 1, 1, 192, 192, 1, 194, 1, 0, 0,
	})
	written(t, "letters", letters(), bytesOf(letters()))
	written(t, "small", small(), bytesOf(small()))
	written(t, "a chain", chain(31), bytesOf(chain(31)))
}

// P11.2: what is not well formed is written and read, too.
func TestWriteWhatIsNotWellFormed(t *testing.T) {
	for _, x := range []float64{math.MaxFloat64, -math.MaxFloat64, math.SmallestNonzeroFloat64, 5, 0} {
		for _, text := range []string{"", "a", "<s>", string(make([]byte, 32))} {
			for _, is := range []bool{false, true} {
				y := api.Token{Bytes: []byte(text), Score: x, Special: is}
				v := api.Vocab{Tokens: []api.Token{y, y}}
				written(t, "a token twice", v, bytesOf(v))
			}
		}
	}
	for _, n := range []int64{0, 1, 191, 192, 255, 256, 1 << 32, math.MaxInt64 - 1, math.MaxInt64} {
		for _, m := range []api.Merge{{A: n}, {B: n}, {To: n}, {A: n, B: n, To: n}} {
			v := api.Vocab{Merges: []api.Merge{m, m}}
			written(t, "a merge twice", v, bytesOf(v))
		}
	}
}

// P11.2
func TestWriteRefuses(t *testing.T) {
	for _, x := range noScores() {
		for _, i := range []int{0, 100, 260} {
			v := small()
			v.Tokens[i].Score = x
			unwritten(t, "no score", v, api.ErrScore)
			v.Merges[0].A = -1
			unwritten(t, "no score, and a number below 0", v, api.ErrScore)
			v.Tokens[0].Bytes = make([]byte, 33)
			unwritten(t, "no score, a number below 0, and too long", v, api.ErrScore)
			v.Merges[0].A = 0
			unwritten(t, "no score, and too long", v, api.ErrScore)
		}
	}
	for _, n := range []int64{-1, -2, -1 << 32, math.MinInt64} {
		for rank := range 3 {
			for _, m := range []api.Merge{{A: n}, {B: n}, {To: n}, {A: 5, B: n, To: math.MaxInt64}, {A: n, B: n, To: n}} {
				v := small()
				v.Merges[rank] = m
				unwritten(t, "a number below 0", v, api.ErrForm)
				v.Tokens[0].Bytes = make([]byte, 33)
				unwritten(t, "a number below 0, and too long", v, api.ErrForm)
			}
		}
	}
}

// P11.2: within MaxBundle bytes, and MaxToken bytes each.
func TestWriteLimits(t *testing.T) {
	v := letters()
	v.Tokens[9].Bytes = make([]byte, 32)
	written(t, "a token of 32 bytes", v, bytesOf(v))
	for _, n := range []int{33, 34, 192, 1 << 16, 1<<17 + 1} {
		v.Tokens[9].Bytes = make([]byte, n)
		unwritten(t, "a token of more than 32 bytes", v, api.ErrLong)
	}
	v = api.Vocab{Tokens: make([]api.Token, 8191)}
	for room := 1<<17 - len(bytesOf(v)); room > 0; room-- {
		v.Tokens[room].Bytes = []byte{1}
	}
	written(t, "MaxBundle bytes", v, bytesOf(v))
	v.Tokens[0].Bytes = []byte{1}
	unwritten(t, "a byte more", v, api.ErrLong)
	unread(t, "a byte more than MaxBundle", bytesOf(v))
	v = api.Vocab{Merges: make([]api.Merge, 16383)}
	for i, room := 0, 1<<17-len(bytesOf(v)); room > 0; i, room = i+1, room-1 {
		v.Merges[i].A = 192 // a byte more
	}
	written(t, "MaxBundle bytes of merges", v, bytesOf(v))
	v.Merges[100].A = 192
	unwritten(t, "a byte more of merges", v, api.ErrLong)
	unread(t, "a byte more of merges than MaxBundle", bytesOf(v))
	unwritten(t, "tokens without end", api.Vocab{Tokens: make([]api.Token, 1<<20)}, api.ErrLong)
	unwritten(t, "merges without end", api.Vocab{Merges: make([]api.Merge, 1<<20)}, api.ErrLong)
	written(t, "as many tokens as may be", pairs(3840), bytesOf(pairs(3840)))
	right(t, "many long tokens", chains(123))
	unwritten(t, "many long tokens", chains(123), api.ErrLong)
}

// P11.2: bytes of no vocabulary.
func TestReadRefuses(t *testing.T) {
	one, m := token("ab", -1), api.Merge{A: 1, B: 2, To: 3}
	x, y := tokenBytes(one), mergeBytes(m)
	if v, e := vocab.Read(list(list(x), list(y))); e != api.OK || !same(v, api.Vocab{Tokens: []api.Token{one}, Merges: []api.Merge{m}}) {
		t.Fatalf("Read: %s and error %d", told(v), e)
	}
	text, points, zero := raw([]byte("ab")), raw(scoreBytes(-1)), num(0)
	for what, b := range map[string][]byte{
		"nothing": nil, "a number": num(2), "bytes": raw([]byte("ab")), "a list of none": list(), "one list": list(list(x)),
		"three lists": list(list(x), list(y), list()), "three lists, one for its own": list(list(), list(), list()),
		"a number for tokens": list(num(1), list(y)), "a number for merges": list(list(x), num(1)),
		"bytes for tokens": list(raw(nil), list(y)), "bytes for merges": list(list(x), raw(nil)),
		"a number for a token": list(list(num(1)), list(y)), "a number for a merge": list(list(x), list(num(1))),
		"a number behind a token": list(list(x, num(1)), list(y)), "a number behind a merge": list(list(x), list(y, num(1))),
		"a merge for a token": list(list(y), list()), "a token for a merge": list(list(), list(x)), "merges ahead of tokens": list(list(y), list(x)),
		"a token of nothing": list(list(list()), list()), "a token of its bytes": list(list(list(text)), list()),
		"a token without what it is": list(list(list(text, points)), list()), "a token with more": list(list(list(text, points, zero, zero)), list()),
		"a token without a score": list(list(list(text, zero)), list()), "a token without bytes": list(list(list(points, zero)), list()),
		"a number for bytes": list(list(list(num(5), points, zero)), list()), "a list for bytes": list(list(list(list(), points, zero)), list()),
		"a number for a score": list(list(list(text, num(5), zero)), list()), "7 bytes for a score": list(list(list(text, raw(make([]byte, 7)), zero)), list()),
		"9 bytes for a score": list(list(list(text, raw(make([]byte, 9)), zero)), list()), "no bytes for a score": list(list(list(text, raw(nil), zero)), list()),
		"2 for special": list(list(list(text, points, num(2))), list()), "256 for special": list(list(list(text, points, num(256))), list()),
		"2^64 - 1 for special": list(list(list(text, points, num(math.MaxUint64))), list()), "bytes for special": list(list(list(text, points, raw(nil))), list()),
		"33 bytes":                list(list(list(raw(make([]byte, 33)), points, zero)), list()),
		"a list 5 deep":           list(list(list(text, points, list(num(0)))), list()),
		"a merge of nothing":      list(list(), list(list())),
		"a merge of two":          list(list(), list(list(zero, zero))),
		"a merge of four":         list(list(), list(list(zero, zero, zero, zero))),
		"a merge with bytes":      list(list(), list(list(zero, zero, raw(nil)))),
		"A of 2^63":               list(list(), list(list(num(1<<63), zero, zero))),
		"B of 2^63":               list(list(), list(list(zero, num(1<<63), zero))),
		"To of 2^63":              list(list(), list(list(zero, zero, num(1<<63)))),
		"To of 2^64 - 1":          list(list(), list(list(zero, zero, num(math.MaxUint64)))),
		"a count that is longer":  {3, 192, 2, 3, 0, 3, 0},
		"a kind that is none":     {3, 2, 3, 0, 4, 0},
		"more told than there is": {3, 2, 3, 199, 255, 255, 255, 255, 255, 255, 255, 255},
		"bytes behind":            append(list(list(x), list(y)), 0),
		"a vocabulary twice":      append(list(list(), list()), list(list(), list())...),
	} {
		unread(t, what, b)
	}
	for _, n := range noScores() {
		unread(t, "no score", list(list(list(text, raw(scoreBytes(n)), zero)), list()))
		unread(t, "no score behind a token", list(list(x, list(text, raw(scoreBytes(n)), zero)), list()))
		unread(t, "no score ahead of a token", list(list(list(text, raw(scoreBytes(n)), zero), x), list()))
	}
}

// P11.2
func TestLoad(t *testing.T) {
	for _, v := range []api.Vocab{letters(), small(), chain(31)} {
		if w, e := vocab.Load(bytesOf(v)); e != api.OK || !same(v, w) {
			t.Errorf("Load: %s and error %d", told(w), e)
		}
	}
	for e, change := range map[api.Errno]func(v *api.Vocab){
		api.ErrToken:    func(v *api.Vocab) { v.Tokens = append(v.Tokens, token("zz", -1)) },
		api.ErrScore:    func(v *api.Vocab) { v.Tokens[0].Score = 1 },
		api.ErrAlphabet: func(v *api.Vocab) { *v = api.Vocab{} },
		api.ErrMerge:    func(v *api.Vocab) { v.Merges[0].A = math.MaxInt64 },
		api.ErrRank:     func(v *api.Vocab) { v.Tokens[257].Score = 0 },
		api.ErrLong:     func(v *api.Vocab) { v.Tokens = make([]api.Token, 4097) },
	} {
		v := small()
		change(&v)
		written(t, "not well formed", v, bytesOf(v))
		unloaded(t, "not well formed", bytesOf(v), e)
		unloaded(t, "not well formed, and cut off", bytesOf(v)[:len(bytesOf(v))-1], api.ErrForm)
	}
}

// P11.5, P11.2, P1: other bytes are read as what is written as those, or not at all.
func TestThereAndBack(t *testing.T) {
	r := rand.New(rand.NewSource(2))
	read := 0
	for i := range 250 {
		v := learnt(r, r.Intn(12))
		for range i % 3 {
			spoil(r, &v)
		}
		b, e := vocab.Write(v)
		if e != api.OK {
			continue
		}
		written(t, "one of chance", v, bytesOf(v))
		for range 6 {
			c := bytes.Clone(b)
			for range 1 + r.Intn(2) {
				c[len(c)-1-r.Intn(min(len(c), 1+r.Intn(400)))] = byte(r.Intn(256) >> r.Intn(8))
			}
			w, e := vocab.Read(c)
			if e != api.OK {
				unread(t, "changed bytes", c)
				continue
			}
			read++
			written(t, "changed bytes", w, c)
		}
	}
	if read < 120 {
		t.Errorf("%d changed bytes were read", read)
	}
}

// P11.2, P1: bytes that are cut off, or have more behind; bytes of chance.
func TestReadOfNoBytes(t *testing.T) {
	v := api.Vocab{Tokens: small().Tokens[250:], Merges: small().Merges}
	b := bytesOf(v)
	for n := range b {
		unread(t, "cut off", b[:n])
		unread(t, "begun later", b[n+1:])
	}
	for _, more := range [][]byte{{0}, {3}, {3, 0}, b, make([]byte, 1<<18)} {
		unread(t, "with more behind", slices.Concat(b, more))
	}
	r := rand.New(rand.NewSource(3))
	for range 3000 {
		b := make([]byte, 7+r.Intn(60))
		for i := range b {
			b[i] = byte(r.Intn(5))
		}
		if w, e := vocab.Read(b); e == api.OK {
			written(t, "bytes of chance", w, b)
		} else {
			unread(t, "bytes of chance", b)
		}
	}
	for _, n := range []int{3, 4, 5, 100, 1 << 16, 1 << 20} {
		unread(t, "lists in lists", bytes.Repeat([]byte{3, 1}, n))
		unread(t, "lists in lists", append(bytes.Repeat([]byte{3, 1}, n), 3, 0))
	}
}
