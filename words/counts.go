package words

import (
	"maps"
	"slices"

	"imprimatur/api"
)

// Count is a word, and how often it stands in some texts.
type Count struct {
	Word []byte
	N    int64
}

// Counts are the words of texts, rising, and how often each stands in them.
func Counts(texts ...[]byte) ([]Count, api.Errno) {
	room := api.MaxText
	for _, text := range texts {
		if len(text) > room {
			return nil, api.ErrLong
		}
		room -= len(text)
	}
	often := map[string]int64{}
	for _, text := range texts {
		for w := range wordsOf(text) {
			often[string(w)]++
		}
	}
	var l []Count
	for _, w := range slices.Sorted(maps.Keys(often)) {
		l = append(l, Count{[]byte(w), often[w]})
	}
	return l, api.OK
}
