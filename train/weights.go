package train

import (
	"cmp"
	"iter"

	"imprimatur/api"
)

// leastWeight is that of a pair which is worth a merge.
const leastWeight = 2

// pair is the numbers of two tokens.
type pair struct{ a, b int64 }

// weighed is a pair, and its weight.
type weighed struct {
	pair
	weight int64
}

// weigh adds to the weight of two tokens, if they may be merged.
func (c *corpus) weigh(a, b, n int64) {
	p := pair{a, b}
	if !c.mergeable(p) {
		return
	}
	c.weights[p] += n
	if c.weights[p] == 0 {
		delete(c.weights, p)
	}
}

// mergeable tells whether the bytes of a pair may become a token's.
func (c *corpus) mergeable(p pair) bool {
	a, b := c.Tokens[p.a].Bytes, c.Tokens[p.b].Bytes
	if len(a)+len(b) > api.MaxToken {
		return false
	}
	_, taken := c.taken[string(a)+string(b)]
	return !taken
}

// heaviest is the pair that is merged next, if there is one.
func (c *corpus) heaviest() (pair, bool) {
	w, ok := greatest(c.scales(), func(x, y weighed) bool {
		if x.weight != y.weight {
			return x.weight > y.weight
		}
		return cmp.Or(cmp.Compare(x.a, y.a), cmp.Compare(x.b, y.b)) < 0
	})
	return w.pair, ok && w.weight >= leastWeight
}

// scales tells the pairs that may be merged, in no order.
func (c *corpus) scales() iter.Seq[weighed] {
	return func(yield func(weighed) bool) {
		for p, n := range c.weights {
			if !yield(weighed{p, n}) {
				return
			}
		}
	}
}

// greatest is the one of some that is greater than all others, if there are any.
func greatest[T any](some iter.Seq[T], greater func(a, b T) bool) (T, bool) {
	var first T
	found := false
	for x := range some {
		if !found || greater(x, first) {
			first, found = x, true
		}
	}
	return first, found
}
