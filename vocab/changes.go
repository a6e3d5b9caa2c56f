package vocab

import (
	"imprimatur/api"
	"imprimatur/score"
)

// Kinds of changes.
const (
	isGone = iota + 1
	isNew
	isTurned
	isScored
	isMoved
)

// nowhere is a number that has no meaning.
const nowhere = -1

// Change is how a token changed.
type Change struct {
	Kind     int
	From, To int64
}

// Changes are the changes from a vocabulary to another one.
func Changes(v, w api.Vocab) ([]Change, api.Errno) {
	old, e := Build(v)
	if e != api.OK {
		return nil, e
	}
	next, e := Build(w)
	if e != api.OK {
		return nil, e
	}
	return append(losses(old, next), others(old, next)...), api.OK
}

// losses are the changes of the tokens that are gone.
func losses(old, next *Table) []Change {
	var l []Change
	for i, t := range old.tokens {
		if _, ok := next.Find(t.Bytes); !ok {
			l = append(l, Change{isGone, int64(i), nowhere})
		}
	}
	return l
}

// others are the changes of the tokens that there are now.
func others(old, next *Table) []Change {
	var l []Change
	for i, t := range next.tokens {
		to := int64(i)
		from, ok := old.Find(t.Bytes)
		if !ok {
			l = append(l, Change{isNew, nowhere, to})
			continue
		}
		if kind := turn(old.tokens[from], t, from != to); kind != 0 {
			l = append(l, Change{kind, from, to})
		}
	}
	return l
}

// turn is the kind of the change from a token to one of the same bytes; 0, if there is none.
func turn(a, b api.Token, moves bool) int {
	switch {
	case a.Special != b.Special:
		return isTurned
	case score.Compare(a.Score, b.Score) != 0:
		return isScored
	case moves:
		return isMoved
	}
	return 0
}
