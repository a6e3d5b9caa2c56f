package train_test

import (
	"slices"

	"imprimatur/api"
	"imprimatur/words"
)

// model is what the chapter says of learning, with each word's parts as texts and all weights reckoned anew for each merge.
type model struct {
	parts  [][]string
	often  []int64
	order  map[string]int // the tokens' numbers, by their bytes
	taken  map[string]bool
	merges [][2]string
	passed int // pairs of weight that were not merged as their bytes were taken
}

func newModel(l []words.Count, specials []string) *model {
	m := &model{order: map[string]int{}, taken: map[string]bool{}}
	for _, s := range specials {
		m.taken[s] = true
	}
	for b := range 256 {
		m.name(string([]byte{byte(b)}))
	}
	for _, w := range l {
		var parts []string
		for _, b := range w.Word {
			parts = append(parts, string([]byte{b}))
		}
		m.parts = append(m.parts, parts)
		m.often = append(m.often, w.N)
	}
	return m
}

// name numbers a token.
func (m *model) name(text string) {
	m.order[text] = len(m.order)
	m.taken[text] = true
}

// weights are those of all pairs.
func (m *model) weights() map[[2]string]int64 {
	all := map[[2]string]int64{}
	for i, parts := range m.parts {
		for at := 1; at < len(parts); at++ {
			all[[2]string{parts[at-1], parts[at]}] += m.often[i]
		}
	}
	return all
}

// next is the pair that is merged next, if there is one.
func (m *model) next() ([2]string, bool) {
	var best [2]string
	weight := int64(0)
	for p, n := range m.weights() {
		if n < 2 || len(p[0]+p[1]) > 32 {
			continue
		}
		if m.taken[p[0]+p[1]] {
			m.passed++
			continue
		}
		lower := m.order[p[0]] < m.order[best[0]] || p[0] == best[0] && m.order[p[1]] < m.order[best[1]]
		if n > weight || n == weight && lower {
			best, weight = p, n
		}
	}
	return best, weight > 0
}

// merge puts a pair together.
func (m *model) merge(p [2]string) {
	for i, parts := range m.parts {
		var joined []string
		for len(parts) > 0 {
			if len(parts) > 1 && parts[0] == p[0] && parts[1] == p[1] {
				joined, parts = append(joined, p[0]+p[1]), parts[2:]
				continue
			}
			joined, parts = append(joined, parts[0]), parts[1:]
		}
		m.parts[i] = joined
	}
	m.name(p[0] + p[1])
	m.merges = append(m.merges, p)
}

// modelOf is a model that has learnt.
func modelOf(l []words.Count, merges int, specials []string) *model {
	m := newModel(l, specials)
	for range merges {
		p, ok := m.next()
		if !ok {
			break
		}
		m.merge(p)
	}
	return m
}

// weight is how many parts the words have, each as often as its word stands.
func (m *model) weight() int64 {
	sum := int64(0)
	for i, parts := range m.parts {
		sum += int64(len(parts)) * m.often[i]
	}
	return sum
}

// numbers are those of a word's parts.
func (m *model) numbers(i int) []int64 {
	var ids []int64
	for _, s := range m.parts[i] {
		ids = append(ids, int64(m.order[s]))
	}
	return ids
}

// stretched are the tokens of a word as one stretch, by a vocabulary, as the chapter bpe says.
func stretched(v api.Vocab, text []byte) []int64 {
	ids := []int64{}
	for _, b := range text {
		ids = append(ids, int64(slices.IndexFunc(v.Tokens, func(x api.Token) bool { return !x.Special && string(x.Bytes) == string([]byte{b}) })))
	}
joining:
	for {
		for _, m := range v.Merges { // the lowest rank first
			for i := range max(len(ids)-1, 0) { // and of several the first ones
				if ids[i] == m.A && ids[i+1] == m.B {
					ids = slices.Replace(ids, i, i+2, m.To)
					continue joining
				}
			}
		}
		return ids
	}
}
