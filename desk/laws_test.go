package desk_test

import (
	"fmt"
	"math/rand"
	"slices"
	"strings"
	"testing"

	"imprimatur/api"
	"imprimatur/desk"
)

// one is one of some texts.
func one(r *rand.Rand, l ...string) string {
	return l[r.Intn(len(l))]
}

// bits are some of them.
func bits(r *rand.Rand) string {
	b := "-"
	for range r.Intn(6) {
		b = strings.TrimPrefix(b, "-") + one(r, "0", "1")
	}
	return b
}

// someWord is a word of chance: a number, digits, or none of these.
func someWord(r *rand.Rand) string {
	return one(r,
		"0", "1", "2", "3", "4", "7", "-1", "-8", "97", "256", "255", "200", "201", "1000", "90", "6162", "61", "-", "101", "3c733e", "4096",
		"9223372036854775807", "-9223372036854775808", "9223372036854775808", "1099511627776", "-0", "+1", "01", "", "x", "6G", "letters", "\n", "é",
	)
}

// someLine is a line of chance that goes well most times, behind the lines of upTo.
func someLine(r *rand.Rand) string {
	seed := func() string { return one(r, "1", "1", "1", "2", "3", "4", "11", "255") }
	switch r.Intn(25) {
	case 0:
		return one(r, "letters", "clear", "token 6162 -8", "token 6263 -4", "special 3c733e", "merge 97 98 256", "merge 98 99 257", "token 616263 -20", "merge 256 99 258")
	case 1:
		return fmt.Sprintf("keys %d %d %s", r.Intn(4), 1+r.Intn(5)/4, seed()) + one(r, "", "", " "+seed())
	case 2:
		return fmt.Sprintf("root %d %d %s %s", 1+r.Intn(5), 60+r.Intn(60), seed(), seed())
	case 3, 4:
		return fmt.Sprintf("issue %d %d %s", 1+r.Intn(30), 40+r.Intn(60), one(r, "1000", "1000", "1024", "300", "64", "63"))
	case 5:
		return fmt.Sprintf("clock %d", r.Intn(110)/(1+r.Intn(6)))
	case 6:
		return fmt.Sprintf("cut %d %s", r.Intn(30), bits(r))
	case 7:
		return "lose " + bits(r)
	case 8, 9, 10:
		return one(r, bootIt, bootIt, bootIt, bootIt, "boot 8192 120 80", "boot 60 120 80", "boot 0 120 80", "boot 4096 120 91", "boot 4096 130 80")
	case 11, 12, 13, 14:
		return "begin"
	case 15, 16, 17, 18:
		return fmt.Sprintf("fetch %d", r.Intn(30))
	case 19:
		return "step"
	case 20:
		return one(r, "status", "want", "active")
	case 21:
		return one(r, "encode 6162", "encode 616263626162", "encode 3c733e", "encode -", "decode 256 99", "decode 97 258", "decode")
	case 22:
		return one(r, "send -", "send -", "send 00", "disk 420", "disk 421", "disk 0")
	case 23:
		return spoilt(r, someLine(r))
	}
	return "status"
}

// spoilt is a line with something else in it, which may be a line, too.
func spoilt(r *rand.Rand, l string) string {
	w := strings.Split(l, " ")
	i := r.Intn(len(w))
	switch r.Intn(6) {
	case 0:
		w = slices.Delete(w, i, i+1)
	case 1:
		w = slices.Insert(w, i, someWord(r))
	case 2:
		w = append(w, someWord(r))
	case 3:
		w = append(w, w[i])
	case 4:
		b := []byte(l)
		if len(b) > 0 {
			b[r.Intn(len(b))] = "0123abc -xX\n"[r.Intn(12)]
		}
		return string(b)
	default:
		w[i] = someWord(r)
	}
	return strings.Join(w, " ")
}

// someScript is a row of lines of chance; most have an updater.
func someScript(r *rand.Rand) []string {
	var l []string
	if r.Intn(8) > 0 {
		l = upTo()
		if r.Intn(3) == 0 {
			l[4] = "root 1 90 1" + one(r, " 2", " 9", "")
			i := 4 + r.Intn(len(l)-4)
			l = slices.Insert(l, i, spoilt(r, l[i]))
		}
		if r.Intn(2) == 0 {
			l = append(l, "begin", "fetch 30")
		}
	}
	for range r.Intn(60) {
		l = append(l, someLine(r))
	}
	return l
}

// played is what lines answer on a new desk.
func played(l []string) []string {
	d := desk.New()
	var a []string
	for _, x := range l {
		a = append(a, d.Line(x))
	}
	return a
}

// inScripts hands scripts of chance to a test.
func inScripts(t *testing.T, first int64, n int, test func(*testing.T, *rand.Rand, []string)) {
	t.Parallel()
	for i := range 4 {
		t.Run("", func(t *testing.T) {
			t.Parallel()
			r := rand.New(rand.NewSource(first + int64(i)))
			for range n {
				test(t, r, someScript(r))
			}
		})
	}
}

// W7: what a desk answers is what the layers answer.
func TestAsTheLayersAnswer(t *testing.T) {
	t.Parallel()
	counts := make([]map[string]int, 4)
	t.Run("scripts", func(t *testing.T) {
		for i := range counts {
			counts[i] = map[string]int{}
			t.Run("", func(t *testing.T) {
				t.Parallel()
				r := rand.New(rand.NewSource(int64(i)))
				for range 60 {
					asTheLayersAnswer(t, someScript(r), counts[i])
				}
			})
		}
	})
	// The scripts tell of something only if they come far.
	for _, word := range []string{"ok", "steps", "want", "versions", "bytes", "tokens", "text", "error 1", "error 2", "error 60", "error 80", "error 81", "error 82", "error 83", "error 84", "error 86", "error 90", "error 111", "error 120"} {
		total := 0
		for _, c := range counts {
			total += c[word]
		}
		if total < 2 {
			t.Errorf("%s: only %d of all answers", word, total)
		}
	}
}

// asTheLayersAnswer plays lines, holds each answer against the layers', and counts answers by their first words.
func asTheLayersAnswer(t *testing.T, l []string, count map[string]int) {
	t.Helper()
	m := newModel()
	for i, a := range played(l) {
		want := m.line(l[i])
		if a != want {
			t.Errorf("behind %q: %q: %s, not %s", l[:i], l[i], a, want)
			return
		}
		word, _, _ := strings.Cut(want, " ")
		if word == "error" {
			word = want
		}
		count[word]++
	}
}

// P17.2: Run answers what the lines do; P17.3: what the first lines answer is the beginning of that.
func TestScripts(t *testing.T) {
	inScripts(t, 10, 15, func(t *testing.T, r *rand.Rand, l []string) {
		l = slices.DeleteFunc(l, func(x string) bool { return strings.Contains(x, "\n") })
		a := append(played(l), "")
		runs(t, "a script", strings.Join(append(l, ""), "\n"), strings.Join(a, "\n"))
		n := r.Intn(len(l) + 1)
		runs(t, "its first lines", strings.Join(append(slices.Clone(l[:n]), ""), "\n"), strings.Join(append(slices.Clone(a[:n]), ""), "\n"))
	})
}

// P17.4: lines that are none change nothing.
func TestLinesThatAreNone(t *testing.T) {
	inScripts(t, 20, 25, func(t *testing.T, r *rand.Rand, l []string) {
		d := desk.New()
		a := played(l)
		for i, x := range l {
			for range r.Intn(4) {
				if wrong := spoilt(r, one(r, l...)); !isLine(wrong) {
					plays(t, d, wrong, noLine)
				}
			}
			plays(t, d, x, a[i])
		}
	})
}

// Rule 2: a line that is refused changes nothing, but for what the updater does when it fails.
func TestLinesThatAreRefused(t *testing.T) {
	inScripts(t, 30, 25, func(t *testing.T, r *rand.Rand, l []string) {
		var kept, want []string
		for i, a := range played(l) {
			word, _, _ := strings.Cut(l[i], " ")
			if !strings.HasPrefix(a, "error") || slices.Contains([]string{"begin", "send", "step", "fetch"}, word) {
				kept, want = append(kept, l[i]), append(want, a)
			}
		}
		if got := played(kept); !slices.Equal(got, want) {
			t.Errorf("without the lines that are refused, %q answer %q, not %q", kept, got, want)
		}
	})
}

// Rule 5: what a script answers hangs on nothing but itself.
func TestTwice(t *testing.T) {
	inScripts(t, 40, 5, func(t *testing.T, _ *rand.Rand, l []string) {
		other := desk.New() // that others are played on at the same time changes nothing
		d := desk.New()
		for i, a := range played(l) {
			other.Line(l[len(l)-1-i])
			plays(t, d, l[i], a)
		}
	})
}

// W2, W6: whenever the power goes in an update, the old vocabulary or the new one is served, and one update more heals it.
func TestThePowerGoes(t *testing.T) {
	t.Parallel()
	old, young := serving(first()), serving(letters())
	seen := map[string]int{}
	for n := 0; ; n++ {
		d := fetched(t)
		all(t, d, ok, "clear", "letters", "issue 2 80 1000", fmt.Sprintf("cut %d %s", n, []string{"-", "1", "01", "111111"}[n%4]))
		if n > 0 { // the first stroke is one of begin's
			d.Line("begin")
		}
		if n > 0 && d.Line("status") != "error 60" && d.Line("fetch 30") != "error 60" {
			plays(t, d, "active", young)
			break
		}
		if n == 0 {
			all(t, d, "error 60", "begin")
		}
		all(t, d, "error 60", "status", "active")
		all(t, d, ok, bootIt)
		is := d.Line("active")
		seen[is]++
		if is != old && is != young {
			t.Errorf("the power goes at the stroke %d: %s", n, is)
		}
		all(t, d, ok, "begin")
		if got := d.Line("fetch 30"); !strings.HasPrefix(got, "steps ") {
			t.Errorf("healed: %s", got)
		}
		plays(t, d, "active", young, "status", "versions 1 2 2 2 active 2 fresh clock 0", "encode 6162", "tokens 97 98")
	}
	if seen[old] < 20 || len(seen) > 2 {
		t.Errorf("the old one was served %d times, and one of %d", seen[old], len(seen))
	}
}

// W5: the last one that was published is served; older ones, strangers' and those whose time has come are refused; keys are changed by roots.
func TestTheLastIsServed(t *testing.T) {
	d := fetched(t)
	is := serving(first())
	refused := func(error string, lines ...string) {
		t.Helper()
		all(t, d, ok, append(lines, "begin")...)
		plays(t, d, "fetch 30", error, "active", is)
	}
	refused("error 83", "issue 2 10 1000", "clock 10")
	refused("error 81", "keys 1 1 77", "issue 2 80 1000")
	all(t, d, ok, "keys 1 1 2", "clear", "letters", "issue 5 80 1000", "begin")
	plays(t, d, "fetch 30", "steps 9")
	is = serving(letters())
	refused("error 82", "issue 4 80 1000")
	refused("error 82", "issue 5 81 1000") // another one of the same version
	all(t, d, ok, keysOf(31)...)
	refused("error 81", "issue 6 80 1000")
	refused("error 81", "root 2 95 31")
	d = fetched(t)
	is = serving(first())
	all(t, d, ok, keysOf(31)...)
	refused("error 81", "root 2 95 31 1", "keys 1 1 2", "clear", "letters", "issue 6 85 1000") // by keys that a root has changed
	all(t, d, ok, "keys 1 1 32", "issue 6 85 1000", "begin")
	plays(t, d, "fetch 30", "steps 9", "active", serving(letters()), "status", "versions 2 6 6 6 active 6 fresh clock 0")
}

// P1: lines and scripts of chance.
func TestEveryCallEnds(t *testing.T) {
	inScripts(t, 50, 30, func(t *testing.T, r *rand.Rand, l []string) {
		d, empty := desk.New(), (*desk.Desk)(nil)
		for _, x := range l {
			for range r.Intn(4) {
				x = spoilt(r, x)
			}
			if a := d.Line(x); a == "" || strings.Contains(a, "\n") {
				t.Errorf("%q: %q", x, a)
			}
			if a := empty.Line(x); a != "" {
				t.Errorf("no desk: %q", a)
			}
		}
		b := make([]byte, r.Intn(3000))
		for i := range b {
			b[i] = "01 -9abfkeys\nroot\xff\x00"[r.Intn(19)]
		}
		if s, e := desk.Run(string(b)); e == api.OK && strings.Count(s, "\n") < strings.Count(string(b), "\n") {
			t.Errorf("%d bytes of chance: error %d", len(b), e)
		}
	})
}
