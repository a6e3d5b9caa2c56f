package vocab

import (
	"math"

	"imprimatur/api"
	"imprimatur/score"
	"imprimatur/wire"
)

// limits are those of a vocabulary's bytes.
func limits() wire.Limits {
	return wire.Limits{Bytes: api.MaxBundle, Deep: 4, Many: 1 << 16, Each: api.MaxToken}
}

// Write is a vocabulary's bytes. It need not be well formed.
func Write(v api.Vocab) ([]byte, api.Errno) {
	for _, t := range v.Tokens {
		if !score.Valid(t.Score) {
			return nil, api.ErrScore
		}
	}
	for _, m := range v.Merges {
		if min(m.A, m.B, m.To) < 0 {
			return nil, api.ErrForm
		}
	}
	if vast(v) {
		return nil, api.ErrLong
	}
	b, e := wire.Write(wire.List(wire.List(each(v.Tokens, tokenNode)...), wire.List(each(v.Merges, mergeNode)...)), limits())
	if e != api.OK {
		return nil, api.ErrLong
	}
	return b, api.OK
}

// vast tells whether a vocabulary is beyond the limits at first sight: it may be far beyond them, and no values are made of it.
func vast(v api.Vocab) bool {
	if len(v.Tokens) > limits().Many || len(v.Merges) > limits().Many {
		return true
	}
	for _, t := range v.Tokens {
		if len(t.Bytes) > limits().Each {
			return true
		}
	}
	return false
}

// each is a list of what is made of each.
func each[T, R any](l []T, of func(T) R) []R {
	made := make([]R, len(l))
	for i, x := range l {
		made[i] = of(x)
	}
	return made
}

// tokenNode is a token, whose score is one, as a value.
func tokenNode(t api.Token) api.Node {
	x, _ := wire.Score(t.Score)
	special := uint64(0)
	if t.Special {
		special = 1
	}
	return wire.List(wire.Bytes(t.Bytes), x, wire.Num(special))
}

// mergeNode is a merge, whose numbers are not below 0, as a value.
func mergeNode(m api.Merge) api.Node {
	return wire.List(wire.Num(uint64(m.A)), wire.Num(uint64(m.B)), wire.Num(uint64(m.To)))
}

// Read is the vocabulary of bytes. It need not be well formed.
func Read(b []byte) (api.Vocab, api.Errno) {
	n, _, e := wire.Read(b, limits())
	if e != api.OK {
		return api.Vocab{}, api.ErrForm
	}
	lists := wire.Open(n)
	tokens, rightTokens := rows(lists, tokenIn)
	merges, rightMerges := rows(lists, mergeIn)
	if !lists.Done() || !rightTokens || !rightMerges {
		return api.Vocab{}, api.ErrForm
	}
	return api.Vocab{Tokens: tokens, Merges: merges}, api.OK
}

// rows is what is in the lists of the next list, if each of them is read whole.
func rows[R any](lists *wire.Fields, read func(*wire.Fields) R) ([]R, bool) {
	var l []R
	right := true
reading:
	for _, n := range lists.List(0, math.MaxInt) {
		row := wire.Open(n)
		switch x := read(row); {
		case !row.Done():
			l, right = nil, false
			break reading
		default:
			l = append(l, x)
		}
	}
	return l, right
}

// tokenIn reads a token.
func tokenIn(row *wire.Fields) api.Token {
	return api.Token{Bytes: row.Bytes(0, api.MaxToken), Score: row.Score(), Special: row.Int(0, 1) == 1}
}

// mergeIn reads a merge.
func mergeIn(row *wire.Fields) api.Merge {
	return api.Merge{A: row.Int(0, math.MaxInt64), B: row.Int(0, math.MaxInt64), To: row.Int(0, math.MaxInt64)}
}

// Load is the well formed vocabulary of bytes.
func Load(b []byte) (api.Vocab, api.Errno) {
	v, e := Read(b)
	if e != api.OK {
		return api.Vocab{}, e
	}
	if _, e := Check(v); e != api.OK {
		return api.Vocab{}, e
	}
	return v, api.OK
}
