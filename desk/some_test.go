package desk_test

import (
	"bytes"
	"crypto/sha256"
	"encoding/hex"
	"fmt"
	"strings"
	"testing"

	"imprimatur/api"
	"imprimatur/desk"
	"imprimatur/vocab"
)

const (
	ok     = "ok"
	long   = "error 2"
	noSuch = "error 111" // what a line needs is not there
	noLine = "error 120"

	aLine  = 1 << 17 // bytes of the longest line
	bootIt = "boot 4096 120 80"
	wanted = "want 0 0 0"
)

// must is what a call answers that goes well.
func must[T any](x T, e api.Errno) T {
	if e != api.OK {
		panic(fmt.Sprint("error ", e))
	}
	return x
}

// brief is a text, or the beginning of a long one.
func brief(s string) string {
	if len(s) > 60 {
		return fmt.Sprintf("%s.. (%d bytes)", s[:60], len(s))
	}
	return s
}

// plays plays lines, each with the answer that it must have behind it.
func plays(t *testing.T, d *desk.Desk, script ...string) {
	t.Helper()
	for i := 0; i+1 < len(script); i += 2 {
		if got := d.Line(script[i]); got != script[i+1] {
			t.Errorf("%s: %s, not %s", brief(script[i]), brief(got), brief(script[i+1]))
		}
	}
}

// all plays lines that all have one answer.
func all(t *testing.T, d *desk.Desk, answer string, lines ...string) {
	t.Helper()
	for _, l := range lines {
		plays(t, d, l, answer)
	}
}

// after is a desk on which lines were played that all went well.
func after(t *testing.T, lines ...string) *desk.Desk {
	t.Helper()
	d := desk.New()
	all(t, d, ok, lines...)
	return d
}

// keysOf are the lines of four Keys of one seed each.
func keysOf(seed int) []string {
	var l []string
	for role := range 4 {
		l = append(l, fmt.Sprintf("keys %d 1 %d", role, seed+role))
	}
	return l
}

// pressed are the lines of a first edition, as in the ten examples.
func pressed() []string {
	return append(keysOf(1), "root 1 90 1", "letters", "token 6162 -8", "merge 97 98 256", "issue 1 80 1000")
}

// upTo are the lines of it up to an updater that is booted.
func upTo() []string {
	return append(pressed(), "disk 420", bootIt)
}

// fetched is a desk whose updater serves that edition.
func fetched(t *testing.T) *desk.Desk {
	t.Helper()
	d := after(t, append(upTo(), "begin")...)
	plays(t, d, "fetch 30", "steps 9")
	return d
}

// first is the vocabulary of that edition.
func first() api.Vocab {
	v := letters()
	v.Tokens = append(v.Tokens, api.Token{Bytes: []byte("ab"), Score: -1})
	v.Merges = []api.Merge{{A: 97, B: 98, To: 256}}
	return v
}

// letters are the short tokens of all bytes, by their bytes.
func letters() api.Vocab {
	v := api.Vocab{}
	for b := range 256 {
		v.Tokens = append(v.Tokens, api.Token{Bytes: []byte{byte(b)}})
	}
	return v
}

// serving is what active answers of a vocabulary, by another program's digest.
func serving(v api.Vocab) string {
	b := must(vocab.Write(v))
	return fmt.Sprintf("bytes %d sha256 %x", len(b), sha256.Sum256(b))
}

// steps is what fetch answers of an update to a vocabulary, with no root behind the pinned one.
func steps(v api.Vocab, chunk int) string {
	return fmt.Sprintf("steps %d", 4+(len(must(vocab.Write(v)))+chunk-1)/chunk)
}

// hexOf are bytes as words of a line have them.
func hexOf(b []byte) string {
	if len(b) == 0 {
		return "-"
	}
	return hex.EncodeToString(b)
}

// seedOf is the seed of a number.
func seedOf(n int) []byte {
	return append([]byte{byte(n)}, bytes.Repeat([]byte{0}, 31)...)
}

// words are n times one word, each with a blank ahead of it.
func words(n int, word string) string {
	return strings.Repeat(" "+word, n)
}
