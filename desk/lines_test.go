package desk_test

import (
	"fmt"
	"strings"
	"testing"

	"imprimatur/api"
	"imprimatur/desk"
)

// P17.1: the chapter's examples.
func TestExamples(t *testing.T) {
	plays(t, desk.New(),
		"want", noSuch,
		"disk 4", ok,
		"boot 10 1 1", noSuch,
		"keys 0 1 7", ok,
		"root 1 50 7", "error 80",
	)
}

// tenExamples are those of the whole, each line with its answer.
func tenExamples() []string {
	return []string{
		"want", noSuch, "foo", noLine,
		"keys 0 1 1", ok, "keys 1 1 2", ok, "keys 2 1 3", ok, "keys 3 1 4", ok, "root 1 90 1", ok,
		"letters", ok, "token 6162 -8", ok, "merge 97 98 256", ok, "issue 1 80 1000", ok,
		bootIt, noSuch, "disk 420", ok, bootIt, ok,
		"want", wanted, "active", noSuch, "status", "versions 1 0 0 0 active 0 stale clock 0",
		"begin", ok, "want", "want 1 2 0", "step", ok, "want", "want 2 0 0",
		"fetch 30", "steps 8", "status", "versions 1 1 1 1 active 1 fresh clock 0",
		"encode 616263", "tokens 256 99", "decode 256 99", "text 616263",
		"lose -", ok, "status", "error 60", bootIt, ok, "encode 6162", "tokens 256",
		"clock 85", ok, "status", "versions 1 1 1 1 active 1 stale clock 85", "begin", ok, "fetch 30", "error 83",
	}
}

// P17.1, P17.2: the ten examples of the whole.
func TestTenExamples(t *testing.T) {
	l := tenExamples()
	plays(t, desk.New(), l...)
	var script, answers strings.Builder
	for i := 0; i < len(l); i += 2 {
		script.WriteString(l[i] + "\n")
		answers.WriteString(l[i+1] + "\n")
	}
	runs(t, "the ten examples", script.String(), answers.String())
}

// P17.1: of a nil desk nothing.
func TestNoDesk(t *testing.T) {
	var d *desk.Desk
	all(t, d, "", "want", "foo", "", "keys 0 1 1", "letters", strings.Repeat("a", aLine+1))
}

// P17.1: a desk that New did not make has nothing, too.
func TestAnEmptyDesk(t *testing.T) {
	plays(t, &desk.Desk{}, tenExamples()...)
}

// needy are lines, and what is missing for each at first.
func needy() []string {
	return []string{
		bootIt, "cut 0 -", "lose -",
		"begin", "send -", "step", "fetch 3", "fetch 0", "want", "status", "active", "encode -", "encode 61", "decode 97",
	}
}

// P17.1: what is needed and is not there.
func TestWhatIsMissing(t *testing.T) {
	d := desk.New()
	all(t, d, noSuch, needy()...)
	all(t, d, ok, "disk 420", "cut 0 -", "lose 101")
	all(t, d, noSuch, "boot 0 0 0", bootIt) // no pinned root, and that is asked ahead of what the call has against it
	all(t, d, noSuch, needy()[3:]...)
	all(t, d, ok, append(keysOf(1), "root 1 90 1")...)
	all(t, d, noSuch, needy()[3:]...)
	all(t, d, ok, bootIt)
	all(t, d, noSuch, "active", "encode 61", "decode 97", "step", "fetch 3", "fetch 0") // no edition; and nothing is served
	all(t, d, ok, "begin")
	all(t, d, noSuch, "step", "fetch 3", "fetch 0", "active")
	plays(t, d, "want", "want 1 2 0")
	all(t, d, ok, "send -")
	all(t, d, noSuch, "step", "fetch 3")
	plays(t, d, "want", "want 2 0 0")
}

// P17.1: an edition, and roots behind the pinned one, are nothing that a boot needs.
func TestWhatIsNotNeeded(t *testing.T) {
	d := after(t, append(keysOf(1), "root 5 90 1", "disk 420", bootIt, "begin")...)
	plays(t, d, "status", "versions 5 0 0 0 active 0 stale clock 0", "want", "want 1 6 0")
	all(t, desk.New(), ok, "clear", "letters", "clock 5", "disk 1", "keys 3 0 0", "merge 0 0 0", "special -", "token - 5")
}

// P17.1: keys. Seeds are counted as they are told, and taken by the line's numbers.
func TestKeys(t *testing.T) {
	d := desk.New()
	all(t, d, ok,
		"keys 0 1 1", "keys 1 9223372036854775807 0 255", "keys 2 -9223372036854775808 5", "keys 3 0 7 7 7",
		"keys 0 1"+words(16, "200"), "keys 3 2", // of no seeds, too
	)
	all(t, d, long, "keys 0 1"+words(17, "200"), "keys 3 1"+words(60000, "7"))
	all(t, d, noLine,
		"keys", "keys 0", "keys 0 x", "keys -1 1 1", "keys 4 1 1", "keys 00 1 1", "keys 0 1 256", "keys 0 1 -1", "keys 0 1 01",
		"keys 0 9223372036854775808 1", "keys 4 1"+words(17, "1"), "keys 0 1"+words(17, "256"), "keys 0 1 1 ", "keys  0 1 1", "Keys 0 1 1",
	)
}

// P17.1: each of the four Keys must be right, and the first that is not is told.
func TestKeysOfRoles(t *testing.T) {
	for role := range 4 {
		d := after(t, keysOf(1)...)
		for _, wrong := range []string{"0 1", "-1 1", "2 1", "2 1 1", "1"} { // of a Need that is not within the keys
			all(t, d, ok, fmt.Sprintf("keys %d %s", role, wrong))
			all(t, d, "error 80", "root 1 90 1")
		}
		all(t, d, ok, fmt.Sprintf("keys %d 2 1 2", role), "root 1 90 1")
	}
}

// P17.1: what is refused leaves the Keys as they were.
func TestKeysThatAreRefused(t *testing.T) {
	d := after(t, keysOf(1)...)
	all(t, d, long, "keys 0 1"+words(17, "9"))
	all(t, d, noLine, "keys 0 1 300", "keys 1 1 9 x", "keys 2 1 9 ")
	all(t, d, ok, "root 1 90 1", "letters", "issue 1 80 1000", "disk 420", bootIt, "begin")
	plays(t, d, "fetch 30", "steps 9")
}

// P17.1: roots. The first one is pinned, those behind it come in order.
func TestRoots(t *testing.T) {
	d := after(t, append(keysOf(1), "root 3 90 1")...)
	all(t, d, ok, append(keysOf(11), "root 4 90 1 11")...)
	all(t, d, ok, append(keysOf(21), "root 5 90 11 21", "letters", "disk 420", bootIt, "begin")...)
	plays(t, d, "want", "want 1 4 0", "status", "versions 3 0 0 0 active 0 stale clock 0")
	// An updater that pins the root 3 asks for the root 4, and of the press that is the third one behind.
	all(t, d, ok, "issue 1 80 1000")
	plays(t, d, "fetch 30", "error 81")
	d = after(t, append(keysOf(1), "root 1 90 1")...)
	all(t, d, ok, append(keysOf(11), "root 2 90 1 11")...)
	all(t, d, ok, append(keysOf(21), "root 3 90 11 21", "letters", "issue 1 80 1000", "disk 420", bootIt, "begin")...)
	plays(t, d, "fetch 30", "steps 11", "status", "versions 3 1 1 1 active 1 fresh clock 0")
}

// P17.1: what a root may be, and who may sign it.
func TestRootsThatMayBe(t *testing.T) {
	d := after(t, keysOf(1)...)
	all(t, d, "error 80", "root 0 90 1", "root -1 90 1", "root 1 -1 1", "root 4611686018427387905 90 1", "root 9223372036854775807 -9223372036854775808 1")
	all(t, d, noLine,
		"root", "root 1", "root 1 x", "root x 90", "root 1 90 256", "root 1 90 -1", "root 1 90 1 ", "root 1  90 1", "root 1 90 1\n",
		"root 1 90"+words(17, "256"), "root 1 9223372036854775808 1",
	)
	all(t, d, long, "root 1 90"+words(17, "1"), "root 0 0"+words(17, "1"), "root 1 90"+words(60000, "5"))
	all(t, d, ok, "disk 420")
	all(t, d, noSuch, bootIt) // none of these was pinned
	all(t, d, ok, "root 1 90")
	plays(t, d, bootIt, "error 81") // of no signatures
	for _, signers := range []string{" 1", " 1 1 1", " 9 1", words(15, "1") + " 2", words(16, "1")} {
		d = after(t, append(keysOf(1), "root 1 90"+signers, "disk 420", bootIt)...)
		plays(t, d, "status", "versions 1 0 0 0 active 0 stale clock 0")
	}
	d = after(t, append(keysOf(1), "root 1 90 9", "disk 420")...)
	plays(t, d, bootIt, "error 81")
}

// P17.1: of the roots there are at most 32, beside the pinned one.
func TestManyRoots(t *testing.T) {
	d := after(t, append(keysOf(1), "root 1 90 1")...)
	for i := range 32 {
		all(t, d, ok, fmt.Sprintf("root %d 90 1", i+2))
	}
	all(t, d, long, "root 34 90 1", "root 34 90", "root 0 0", "root 2 90 1")
	all(t, d, ok, "letters", "issue 1 80 1000", "disk 420", bootIt, "begin")
	// An updater takes 16 of them, and a next one from there on is one that has come already.
	plays(t, d, "fetch 16", "steps 16", "status", "versions 17 0 0 0 active 0 stale clock 0", "want", "want 2 0 0", "fetch 30", "steps 8")
	plays(t, d, "active", serving(letters()))
}

// P17.1: letters, token, special, merge and clear.
func TestVocabulary(t *testing.T) {
	v := first()
	v.Tokens = append(v.Tokens, api.Token{Bytes: []byte("<s>"), Special: true}, api.Token{Bytes: []byte("abab"), Score: -1.125})
	v.Tokens[200].Score = -0.5
	v.Merges = append(v.Merges, api.Merge{A: 256, B: 256, To: 258})
	d := after(t, append(keysOf(1), "root 1 90 1", "token 7879 5", "merge 0 1 2", "special -", "clear")...)
	for i, x := range v.Tokens[:256] {
		all(t, d, ok, fmt.Sprintf("token %02x %d", i, int(x.Score*8)))
	}
	all(t, d, ok, "token 6162 -8", "special 3c733e", "merge 97 98 256", "token 61626162 -9", "merge 256 256 258", "issue 7 80 100")
	all(t, d, ok, "disk 420", bootIt, "begin")
	plays(t, d, "fetch 200", steps(v, 100), "active", serving(v), "encode 3c733e6162616263", "tokens 257 258 99")
	// A special token's bytes are its own: with the score 0, whatever came ahead.
	all(t, d, ok, "clear", "letters", "special 3c61613e", "issue 8 80 1000", "begin")
	w := letters()
	w.Tokens = append(w.Tokens, api.Token{Bytes: []byte("<aa>"), Special: true})
	plays(t, d, "fetch 200", steps(w, 1000), "active", serving(w))
}

// P17.1: the words of tokens and merges.
func TestTokensThatMayBe(t *testing.T) {
	all(t, desk.New(), ok,
		"token - 0", "token 00 1099511627776", "token ff -1099511627776", "token "+strings.Repeat("0a", 65000)+" 7",
		"special -", "special 3c3e", "special "+strings.Repeat("0a", 65000),
		"merge 0 0 0", "merge -1 9223372036854775807 -9223372036854775808",
	)
	all(t, desk.New(), noLine,
		"token", "token 61", "token 61 0 0", "token 0", "token 6 0", "token 616 0", "token 6A 0", "token 6g 0", "token g6 0", "token -- 0", "token -6 0",
		"token  0", "token 0x61 0", "token 61 1099511627777", "token 61 -1099511627777", "token 61 -0", "token 61 +1", "token 61 0.5", "token 61 1e3",
		"token 61 00", "token 61 ", " token 61 0", "token 61 0 ", "token 61  0", "token\t61 0", "token 61 0\n", "token 61 9223372036854775808",
		"special", "special 6", "special 61 0", "special ", "special 3C", "special -3c",
		"merge", "merge 0", "merge 0 0", "merge 0 0 0 0", "merge 0 0 x", "merge 0  0 0", "merge 9223372036854775808 0 0", "merge 0 -9223372036854775809 0", "merge 01 0 0", "merge 0 0 -",
		"letters ", "letters 1", "clear 0", "Clear",
	)
}

// P17.1: of tokens and of merges there are at most 5000 each.
func TestManyTokens(t *testing.T) {
	d := desk.New()
	for range 19 {
		all(t, d, ok, "letters")
	}
	for range 5000 - 19*256 {
		all(t, d, ok, "special 3c613e")
	}
	for range 5000 {
		all(t, d, ok, "merge 0 0 0")
	}
	all(t, d, long, "letters", "token 61 0", "token - 0", "special 61", "merge 0 0 0", "issue 1 1 1000")
	for _, room := range []int{255, 256} {
		all(t, d, ok, "clear")
		for range 5000 - room {
			all(t, d, ok, "token 61 0")
		}
		want, left := long, room // there is room for all letters but one, and none is put
		if room == 256 {
			want, left = ok, 0
		}
		all(t, d, want, "letters")
		for range left {
			all(t, d, ok, "token - 0")
		}
		all(t, d, long, "token 61 0", "letters", "special 61")
		all(t, d, ok, "merge 0 0 0")
	}
}

// P17.1: what is too long for a vocabulary changes nothing of it.
func TestManyTokensChangeNothing(t *testing.T) {
	d := after(t, append(upTo(), "clear", "letters")...)
	for i := range 5000 - 256 {
		all(t, d, ok, fmt.Sprintf("token %08x 0", i))
	}
	all(t, d, long, "letters", "token 61 0", "issue 2 80 1000") // more than are well formed
	all(t, d, ok, "begin")
	plays(t, d, "fetch 30", "steps 9", "active", serving(first())) // of the edition ahead of that
}

// P17.1: issue.
func TestIssue(t *testing.T) {
	d := after(t, upTo()...)
	v := first()
	all(t, d, noLine, "issue", "issue 1", "issue 1 80", "issue 1 80 1000 1", "issue 1 80 x", "issue 1 80 1000 ", "issue 01 80 1000", "issue 1 80 9223372036854775808")
	all(t, d, "error 1", "issue 2 80 63", "issue 2 80 1025", "issue 2 80 0", "issue 2 80 -1000", "issue 0 0 -9223372036854775808")
	all(t, d, "error 80", "issue 0 80 1000", "issue 2 -1 1000", "issue -1 80 1000", "issue 2 -80 1000", "issue 4611686018427387905 80 1000", "issue 2 9223372036854775807 1000")
	for _, wrong := range [][]string{
		{"token 6162 -8", "error 90"},
		{"token - -8", "error 90"},
		{"special 61", "error 90"},
		{"token 6163 1", "error 10"},
		{"token 6163 -9", "error 90"},
		{"merge 97 98 257", "error 92"},
		{"merge -1 98 256", "error 92"},
		{"clear", "error 91"},
		{"token 61 0", "error 91"},
	} {
		all(t, d, ok, wrong[0])
		all(t, d, wrong[1], "issue 2 80 1000", "issue 0 0 0")
		if !strings.HasPrefix(wrong[1], "error 91") {
			all(t, d, ok, "clear", "letters", "token 6162 -8", "merge 97 98 256")
		}
	}
	// The edition is still that of the first vocabulary.
	all(t, d, ok, "begin")
	plays(t, d, "fetch 30", "steps 9", "active", serving(v))
	all(t, d, ok, "clear", "letters", "issue 2 80 64", "begin")
	plays(t, d, "fetch 200", steps(letters(), 64), "active", serving(letters()))
}

// P17.1: an edition is by the Keys of when it was issued, sealed by all of them; so is a root.
func TestIssueByKeys(t *testing.T) {
	d := after(t, append(pressed(), keysOf(50)...)...)
	all(t, d, ok, "clear", "disk 420", bootIt, "begin")
	plays(t, d, "fetch 30", "steps 9", "active", serving(first()))
	all(t, d, ok, "letters", "issue 2 80 1000", "begin")
	plays(t, d, "fetch 30", "error 81")
	for role := range 4 {
		d = after(t, upTo()...)
		all(t, d, ok, fmt.Sprintf("keys %d 1", role), "issue 2 80 1000", "begin") // no seeds, no signature
		if role == 0 {
			plays(t, d, "fetch 30", "steps 9")
			continue
		}
		plays(t, d, "fetch 30", "error 81", "want", wanted, "active", noSuch)
		all(t, d, ok, fmt.Sprintf("keys %d 0 77 %d", role, role+1), "issue 3 80 1000", "begin") // the Need plays no part
		plays(t, d, "fetch 30", "steps 9")
	}
}
