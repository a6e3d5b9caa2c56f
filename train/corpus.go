package train

import (
	"slices"

	"imprimatur/api"
	"imprimatur/words"
)

// corpus is words that are learnt from, and what was learnt of them so far.
type corpus struct {
	api.Vocab
	taken   map[string]struct{} // the bytes of all tokens, and those that the special ones will have
	rows    []row
	weights map[pair]int64 // of the pairs that may be merged, those of no weight left out
}

// row is a word's parts, and how often the word stands.
type row struct {
	parts []int64
	n     int64
}

// newCorpus is words of which nothing was learnt but the short tokens.
func newCorpus(l []words.Count, specials [][]byte) *corpus {
	c := &corpus{taken: map[string]struct{}{}, weights: map[pair]int64{}}
	for _, s := range specials {
		c.taken[string(s)] = struct{}{}
	}
	for b := range alphabet {
		c.add(api.Token{Bytes: []byte{byte(b)}})
	}
	for _, w := range l {
		c.rows = append(c.rows, rowOf(w))
	}
	for _, r := range c.rows {
		for i := range len(r.parts) - 1 {
			c.weigh(r.parts[i], r.parts[i+1], r.n)
		}
	}
	return c
}

// rowOf is a word's short tokens, whose numbers are their bytes.
func rowOf(w words.Count) row {
	parts := make([]int64, len(w.Word))
	for i, b := range w.Word {
		parts[i] = int64(b)
	}
	return row{parts, w.N}
}

// add puts a token, whose bytes are its own, behind the others, and is its number.
func (c *corpus) add(t api.Token) int64 {
	id := int64(len(c.Tokens))
	c.Tokens = append(c.Tokens, t)
	c.taken[string(t.Bytes)] = struct{}{}
	return id
}

// merge makes a token of a pair, and puts it wherever the pair stands.
func (c *corpus) merge(p pair) {
	text := slices.Concat(c.Tokens[p.a].Bytes, c.Tokens[p.b].Bytes)
	rank := len(c.Merges)
	to := c.add(api.Token{Bytes: text, Score: float64(-rank)}) // among whole numbers there is no zero below
	// No other pair has these bytes: they are cut in one way wherever no token reaches beyond them.
	delete(c.weights, p)
	m := api.Merge{A: p.a, B: p.b, To: to}
	c.Merges = append(c.Merges, m)
	for i := range c.rows {
		c.join(&c.rows[i], m)
	}
}

// join puts a row's parts together by a merge, and weighs anew what they stand beside. (The pair of the merge has no weight any more.)
func (c *corpus) join(r *row, m api.Merge) {
	joined := r.parts[:0] // it is never ahead of what is read
	for at := 0; at < len(r.parts); at++ {
		if at+1 == len(r.parts) || r.parts[at] != m.A || r.parts[at+1] != m.B {
			joined = append(joined, r.parts[at])
			continue
		}
		if len(joined) > 0 {
			ahead := joined[len(joined)-1]
			c.weigh(ahead, m.A, -r.n)
			c.weigh(ahead, m.To, r.n)
		}
		if at+2 < len(r.parts) {
			behind := r.parts[at+2]
			c.weigh(m.B, behind, -r.n)
			c.weigh(m.To, behind, r.n)
		}
		joined = append(joined, m.To)
		at++ // both of them are done
	}
	r.parts = joined
}
