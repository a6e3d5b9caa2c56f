package bpe

import (
	"cmp"

	"imprimatur/vocab"
)

// gone is the number of no token: it stands where a token was put together with the one ahead of it, so that no merge is found from there on.
const gone = -1

// stretch is the tokens of a stretch, in a list that is linked by places: a token's place is that of its first byte.
type stretch struct {
	table *vocab.Table
	links []link
	pairs *heap[pair]
}

// link is a token, and the places of its neighbours: -1 ahead of the first one, the number of all links behind the last one.
type link struct {
	token       int64
	ahead, next int
}

// pair is two neighbours by the rank of the merge that they had as they became ones, and the place of the first of them.
type pair struct {
	rank, at int
}

// cut is the tokens of a stretch.
func cut(t *vocab.Table, text []byte) []int64 {
	s := &stretch{table: t, pairs: heapBy(func(a, b pair) bool {
		return cmp.Or(cmp.Compare(a.rank, b.rank), cmp.Compare(a.at, b.at)) < 0
	})}
	for at := range text {
		id, _ := t.Find(text[at : at+1]) // there is a short token of each byte
		s.links = append(s.links, link{id, at - 1, at + 1})
	}
	for at := range s.links {
		s.offer(at)
	}
	for p, ok := s.pairs.pop(); ok; p, ok = s.pairs.pop() {
		s.join(p)
	}
	return s.tokens()
}

// merge is the merge of the token at a place and the one behind it.
func (s *stretch) merge(at int) (int, int64, bool) {
	if at < 0 || s.links[at].next == len(s.links) {
		return 0, 0, false
	}
	l := s.links[at]
	return s.table.Pair(l.token, s.links[l.next].token)
}

// offer puts the token at a place and the one behind it among the pairs, if they have a merge.
func (s *stretch) offer(at int) {
	if rank, _, ok := s.merge(at); ok {
		s.pairs.push(pair{rank, at})
	}
}

// join puts a pair together. It stays among the pairs when one of its tokens is put together with another one: then it has no longer that merge.
func (s *stretch) join(p pair) {
	rank, to, ok := s.merge(p.at)
	if !ok || rank != p.rank {
		return
	}
	first := &s.links[p.at]
	second := &s.links[first.next]
	first.token, first.next = to, second.next
	second.token = gone
	if first.next < len(s.links) {
		s.links[first.next].ahead = p.at
	}
	s.offer(first.ahead)
	s.offer(p.at)
}

// tokens are the numbers of the tokens, in order.
func (s *stretch) tokens() []int64 {
	var ids []int64
	for at := 0; at < len(s.links); at = s.links[at].next {
		ids = append(ids, s.links[at].token)
	}
	return ids
}
