package words_test

import (
	"regexp"
	"sort"
	"strings"

	"imprimatur/words"
)

// signOf is the kind and the size of the sign that a text, which has bytes, begins with, by the chapter's words: a sign of more bytes is one that its number is written as.
func signOf(text string) (int, int) {
	b := text[0]
	if b < 128 {
		switch {
		case strings.IndexByte("\t\n\r ", b) >= 0:
			return 3, 1
		case b-'0' < 10:
			return 2, 1
		case b|32 >= 'a' && b|32 <= 'z':
			return 1, 1
		}
		return 4, 1
	}
	for n := 2; n <= 4 && n <= len(text); n++ {
		sign := int(b) & (1<<(7-n) - 1)
		for _, c := range []byte(text[1:n]) {
			sign = sign<<6 | int(c)&63
		}
		if string(written(sign)) == text[:n] {
			return 1, n
		}
	}
	return 0, 1
}

// written is a sign's number, from 128 on, by UTF-8: nothing, if it is no sign's.
func written(sign int) []byte {
	tail := func(shift int) byte { return 0x80 | byte(sign>>shift&63) }
	switch {
	case sign < 0x80 || sign >= 0xD800 && sign < 0xE000 || sign > 0x10FFFF:
		return nil
	case sign < 0x800:
		return []byte{0xC0 | byte(sign>>6), tail(0)}
	case sign < 0x10000:
		return []byte{0xE0 | byte(sign>>12), tail(6), tail(0)}
	}
	return []byte{0xF0 | byte(sign>>18), tail(12), tail(6), tail(0)}
}

// What begins with a byte 32, a blank, any other run: of signs that are told by letters.
var (
	ledWord  = regexp.MustCompile(`^S(L+|D{1,3}|O+)`)
	blankRun = regexp.MustCompile(`^[SB]+`)
	otherRun = regexp.MustCompile(`^(L+|D{1,3}|O+|X)`)
	lead     = regexp.MustCompile(`^[LDO]`)
)

// modelWord is how many signs the word has that signs begin with.
func modelWord(signs string) int {
	if n := len(ledWord.FindString(signs)); n > 0 {
		return n
	}
	n := len(blankRun.FindString(signs))
	if n == 0 {
		return len(otherRun.FindString(signs))
	}
	if signs[n-1] == 'S' && n > 1 && lead.MatchString(signs[n:]) {
		n--
	}
	return n
}

// modelCut are a text's words.
func modelCut(text []byte) []string {
	rest := string(text)
	signs, sizes := "", []int{}
	for rest != "" {
		kind, n := signOf(rest)
		letter := "XLDBO"[kind : kind+1]
		if rest[0] == ' ' {
			letter = "S"
		}
		signs += letter
		sizes = append(sizes, n)
		rest = rest[n:]
	}
	l := []string{}
	rest = string(text)
	for signs != "" {
		n, size := modelWord(signs), 0
		for _, s := range sizes[:n] {
			size += s
		}
		l = append(l, rest[:size])
		signs, sizes, rest = signs[n:], sizes[n:], rest[size:]
	}
	return l
}

// modelCounts is how often words stand in texts.
func modelCounts(texts ...[]byte) []words.Count {
	all := []string{}
	for _, text := range texts {
		all = append(all, modelCut(text)...)
	}
	sort.Strings(all)
	l := []words.Count{}
	for i, w := range all {
		if i == 0 || w != all[i-1] {
			l = append(l, words.Count{Word: []byte(w)})
		}
		l[len(l)-1].N++
	}
	return l
}
