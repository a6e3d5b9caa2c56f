package desk_test

import (
	"encoding/hex"
	"fmt"
	"math/big"
	"regexp"
	"strconv"
	"strings"

	"imprimatur/api"
	"imprimatur/bpe"
	"imprimatur/disk"
	"imprimatur/press"
	"imprimatur/sha2"
	"imprimatur/updater"
	"imprimatur/vocab"
)

// model plays lines by the layers' calls alone.
type model struct {
	keys    [4]press.Keys
	vocab   api.Vocab
	pin     []byte
	roots   [][]byte
	edition press.Edition
	issued  bool
	clock   int64
	disk    *disk.Disk
	up      *updater.Updater
}

func newModel() *model {
	return &model{}
}

// forms are those of all lines: N a number, S a seed's, H HEX, B BITS, and how many behind a number's word.
const forms = `keys N N( S)*|root N N( S)*|letters|token H N|special H|merge N N N|clear|issue N N N|disk N|boot N N N|clock N|begin|send H|step|fetch N|want|status|active|encode H|decode( N)*|cut N B|lose B`

var form = regexp.MustCompile("^(" + strings.NewReplacer("N", "(0|-?[1-9][0-9]*)", "S", "(0|[1-9][0-9]*)", "H", "(-|([0-9a-f]{2})+)", "B", "(-|[01]+)").Replace(forms) + `)\z`)

// bounds are those of a line's number, by its place.
func bounds(word string, place int) (low, high int64) {
	switch {
	case word == "keys" && place == 1:
		return 0, 3
	case word == "keys" && place > 2, word == "root" && place > 2:
		return 0, 255
	case word == "token":
		return -1 << 40, 1 << 40
	case word == "fetch":
		return 0, 200
	}
	return -1 << 63, 1<<63 - 1
}

// numeral tells whether a line's word at a place is a number.
func numeral(word string, place int) bool {
	switch word {
	case "token":
		return place == 2
	case "special", "send", "encode", "lose":
		return false
	case "cut":
		return place == 1
	}
	return true
}

// isLine tells whether a text is a line.
func isLine(s string) bool {
	if !form.MatchString(s) {
		return false
	}
	w := strings.Split(s, " ")
	for i := 1; i < len(w); i++ {
		if !numeral(w[0], i) {
			continue
		}
		low, high := bounds(w[0], i)
		n, _ := new(big.Int).SetString(w[i], 10)
		if n.Cmp(big.NewInt(low)) < 0 || n.Cmp(big.NewInt(high)) > 0 {
			return false
		}
	}
	return true
}

// line is what a line answers.
func (m *model) line(s string) string {
	if len(s) > 1<<17 {
		return "error 2"
	}
	if !isLine(s) {
		return "error 120"
	}
	w := strings.Split(s, " ")
	var n []int64
	for _, x := range w {
		i, _ := strconv.ParseInt(x, 10, 64)
		n = append(n, i)
	}
	answer, e := m.told(w, n)
	if e != api.OK {
		return fmt.Sprint("error ", int(e))
	}
	return answer
}

// spaced are words with a blank between any two.
func spaced(words ...any) string {
	return strings.TrimSuffix(fmt.Sprintln(words...), "\n")
}

func bytesOf(w string) []byte {
	b, _ := hex.DecodeString(strings.TrimPrefix(w, "-"))
	return b
}

func bitsOf(w string) []bool {
	var b []bool
	for _, c := range strings.TrimPrefix(w, "-") {
		b = append(b, c == '1')
	}
	return b
}

func seedsOf(n []int64) [][]byte {
	var s [][]byte
	for _, x := range n {
		s = append(s, seedOf(int(x)))
	}
	return s
}

// told is what the line of these words, and of their numbers, answers.
func (m *model) told(w []string, n []int64) (string, api.Errno) {
	switch w[0] {
	case "disk", "boot", "cut", "lose", "clock":
		return "ok", m.under(w, n)
	case "keys", "root", "letters", "token", "special", "merge", "clear", "issue":
		return "ok", m.press(w, n)
	}
	if m.up == nil {
		return "", api.ErrNone
	}
	switch w[0] {
	case "begin":
		return "ok", m.up.Begin(m.clock)
	case "send":
		return "ok", m.up.Step(bytesOf(w[1]), m.clock)
	case "step":
		return "ok", m.step()
	case "fetch":
		steps, e := int64(0), api.OK
		if !m.issued {
			e = api.ErrNone
		}
		for ; e == api.OK && steps < n[1] && m.up.Want().Kind != 0; steps++ {
			e = m.step()
		}
		return fmt.Sprint("steps ", steps), e
	case "want":
		x := m.up.Want()
		return spaced("want", x.Kind, x.Version, x.Place), api.OK
	case "status":
		s, e := m.up.Status(m.clock)
		v := s.Versions
		return spaced("versions", v[0], v[1], v[2], v[3], "active", s.Active, map[bool]string{true: "stale", false: "fresh"}[s.Stale], "clock", s.Clock), e
	}
	return m.served(w, n[1:])
}

func (m *model) step() api.Errno {
	if !m.issued {
		return api.ErrNone
	}
	b, e := press.Answer(m.edition, m.roots, m.up.Want())
	if e != api.OK {
		return e
	}
	return m.up.Step(b, m.clock)
}

// reply is what the press answers to what is wanted.
func (m *model) reply() []byte {
	return must(press.Answer(m.edition, m.roots, m.up.Want()))
}

// served is what a line answers of what is served.
func (m *model) served(w []string, n []int64) (string, api.Errno) {
	b, e := m.up.Active()
	if e != api.OK {
		return "", e
	}
	t := must(vocab.Build(must(m.up.Vocab())))
	switch w[0] {
	case "active":
		return fmt.Sprintf("bytes %d sha256 %x", len(b), must(sha2.Sum256(b))), api.OK
	case "encode":
		ids, e := bpe.Encode(t, bytesOf(w[1]))
		return strings.TrimRight("tokens "+strings.Trim(fmt.Sprint(ids), "[]"), " "), e
	default:
		text, e := bpe.Decode(t, n)
		return "text " + hexOf(text), e
	}
}

// under does what a line says of what the updater lies on.
func (m *model) under(w []string, n []int64) api.Errno {
	switch {
	case w[0] == "clock":
		m.clock = n[1]
	case w[0] == "disk":
		d, e := disk.New(nil, int(n[1]))
		if e != api.OK {
			return e
		}
		m.disk, m.up = d, nil
	case m.disk == nil:
		return api.ErrNone
	case w[0] == "cut":
		return m.disk.Set(int(n[1]), bitsOf(w[2]))
	case w[0] == "lose":
		m.disk.Lose(bitsOf(w[1]))
	case m.pin == nil:
		return api.ErrNone
	default:
		was := m.disk.Copy()
		c := updater.Config{Pin: m.pin, Limit: int(n[1]), Area: int(n[2]), Room: int(n[3])}
		was.Start()
		if _, e := updater.Boot(was, c); e != api.OK {
			return e
		}
		m.disk.Start()
		m.up, _ = updater.Boot(m.disk, c)
	}
	return api.OK
}

// press does what a line says of what is published.
func (m *model) press(w []string, n []int64) api.Errno {
	switch w[0] {
	case "keys":
		if len(w) > 3+16 {
			return api.ErrLong
		}
		m.keys[n[1]] = press.Keys{Seeds: seedsOf(n[3:]), Need: n[2]}
	case "root":
		if len(w) > 3+16 || len(m.roots) > 31 {
			return api.ErrLong
		}
		b, e := press.Root(n[1], n[2], m.keys, seedsOf(n[3:])...)
		if e != api.OK {
			return e
		}
		if m.pin != nil {
			m.roots = append(m.roots, b)
		} else {
			m.pin = b
		}
	case "letters":
		return m.put(letters().Tokens)
	case "token":
		return m.put([]api.Token{{Bytes: bytesOf(w[1]), Score: float64(n[2]) * 0.125}})
	case "special":
		return m.put([]api.Token{{Bytes: bytesOf(w[1]), Special: true}})
	case "merge":
		if len(m.vocab.Merges) > 4999 {
			return api.ErrLong
		}
		m.vocab.Merges = append(m.vocab.Merges, api.Merge{A: n[1], B: n[2], To: n[3]})
	case "clear":
		m.vocab = api.Vocab{}
	case "issue":
		x, e := press.Publish(press.Issue{Version: n[1], Expires: n[2], Chunk: n[3], Vocab: m.vocab}, m.keys)
		if e != api.OK {
			return e
		}
		m.edition, m.issued = x, true
	}
	return api.OK
}

// put puts tokens behind the others, if there are not too many then.
func (m *model) put(t []api.Token) api.Errno {
	l := append(m.vocab.Tokens, t...)
	if len(l) > 5000 {
		return api.ErrLong
	}
	m.vocab.Tokens = l
	return api.OK
}
