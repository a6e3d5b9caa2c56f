package vocab

import (
	"bytes"

	"imprimatur/api"
)

// Table is a well formed vocabulary that is looked up. One that Build did not make is as a nil one, and has nothing.
type Table struct {
	tokens  []api.Token
	numbers map[string]int64    // of the tokens, by their bytes
	merges  map[[2]int64]merged // by the numbers of A and B
	longest int                 // how many bytes the longest special token has
}

// merged is the rank of a merge, and the number of what it makes.
type merged struct {
	rank int
	to   int64
}

// Build is a vocabulary's table.
func Build(v api.Vocab) (*Table, api.Errno) {
	s, _, e := searched(v)
	if e != api.OK {
		return nil, e
	}
	t := &Table{tokens: each(v.Tokens, ownToken), numbers: s.numbers, merges: map[[2]int64]merged{}}
	for _, x := range t.tokens {
		if x.Special {
			t.longest = max(t.longest, len(x.Bytes))
		}
	}
	for rank, m := range v.Merges {
		// No other merge is of the same two: what that made would have the same bytes, and no two tokens have.
		t.merges[[2]int64{m.A, m.B}] = merged{rank, m.To}
	}
	return t, api.OK
}

// ownToken is a token that shares no memory with the one that it is made of.
func ownToken(t api.Token) api.Token {
	t.Bytes = bytes.Clone(t.Bytes)
	return t
}

// Size is how many tokens there are.
func (t *Table) Size() int {
	if t == nil {
		return 0
	}
	return len(t.tokens)
}

// Token is the token of a number.
func (t *Table) Token(id int64) (api.Token, api.Errno) {
	if id < 0 || id >= int64(t.Size()) {
		return api.Token{}, api.ErrText
	}
	return ownToken(t.tokens[id]), api.OK
}

// Find is the number of the token of bytes.
func (t *Table) Find(b []byte) (int64, bool) {
	if t == nil {
		return 0, false
	}
	id, ok := t.numbers[string(b)]
	return id, ok
}

// Pair is the merge of two tokens: its rank, and the number of what it makes.
func (t *Table) Pair(a, b int64) (int, int64, bool) {
	if t == nil {
		return 0, 0, false
	}
	m, ok := t.merges[[2]int64{a, b}]
	return m.rank, m.to, ok
}

// Special is the longest special token that bytes begin with: its number, and how many bytes it has.
func (t *Table) Special(b []byte) (int64, int) {
	if t == nil || len(b) == 0 || b[0] != opening { // most bytes of a text are not looked up
		return 0, 0
	}
	for n := min(len(b), t.longest); n >= leastSpecial; n-- {
		if id, ok := t.numbers[string(b[:n])]; ok && t.tokens[id].Special {
			return id, n
		}
	}
	return 0, 0
}
