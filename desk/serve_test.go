package desk_test

import (
	"fmt"
	"strings"
	"testing"

	"imprimatur/api"
	"imprimatur/desk"
)

// P17.1: disk. With another one there is no updater any more.
func TestDisk(t *testing.T) {
	d := fetched(t)
	all(t, d, "error 1", "disk 0", "disk -1", "disk 16385", "disk 9223372036854775807", "disk -9223372036854775808")
	all(t, d, noLine, "disk", "disk x", "disk 1 1", "disk 01", "disk 9223372036854775808", "disk ")
	plays(t, d, "active", serving(first())) // none of these changed anything
	all(t, d, ok, "disk 420")
	all(t, d, noSuch, needy()[3:]...)
	all(t, d, ok, bootIt)
	plays(t, d, "status", "versions 1 0 0 0 active 0 stale clock 0", "active", noSuch) // it was all 0
	all(t, d, ok, "disk 16384", bootIt, "disk 1")
	plays(t, d, bootIt, "error 1")
}

// P17.1: boot, and what it is refused for.
func TestBoot(t *testing.T) {
	d := fetched(t)
	all(t, d, noLine, "boot", "boot 1", "boot 1 2", "boot 1 2 1 1", "boot 1 2 x", "boot 1 2 -", "boot 1 02 1", "boot 4096 120 80 ")
	refused := []string{
		"boot 0 120 80", "boot -1 120 80", "boot 65537 120 80", "boot 4096 1 80", "boot 4096 120 91", "boot 4096 131 80", "boot 4096 120 0", "boot 4096 120 -1",
		"boot 4096 -120 80", "boot 9223372036854775807 9223372036854775807 9223372036854775807", "boot 4096 -9223372036854775808 -9223372036854775808",
	}
	all(t, d, "error 1", refused...)
	plays(t, d, "active", serving(first()))
	for _, c := range []string{"boot 1 120 80", "boot 65536 120 80", "boot 4096 120 90", "boot 4096 130 80", "boot 4096 120 70"} {
		all(t, d, ok, c)
	}
	// With another Area and Room another part of the disk is read.
	all(t, d, ok, "boot 4096 2 1")
	plays(t, d, "active", noSuch)
	all(t, d, ok, bootIt)
	plays(t, d, "active", serving(first()))
	all(t, d, ok, "begin", "step")
	plays(t, d, "want", "want 2 0 0")
	all(t, d, ok, bootIt)
	plays(t, d, "want", wanted, "status", "versions 1 1 1 1 active 1 fresh clock 0")
}

// P17.1: a boot that is refused changes nothing: it does not even start the disk.
func TestBootThatIsRefused(t *testing.T) {
	d := fetched(t)
	all(t, d, ok, "lose -")
	all(t, d, "error 1", "boot 0 120 80", "boot 4096 120 91")
	all(t, d, noLine, "boot 4096 120 80 1")
	all(t, d, "error 60", "status", "active", "begin", "send -")
	all(t, d, ok, bootIt, "cut 0 -")
	all(t, d, "error 1", "boot 0 120 80")
	all(t, d, "error 60", "begin", "begin", "status")
	d = after(t, append(keysOf(1), "root 1 90 9", "disk 420", "cut 0 -")...)
	all(t, d, "error 81", bootIt)
	all(t, d, noSuch, "status")
}

// P17.1: the reply's Limit is that of the boot.
func TestBootLimit(t *testing.T) {
	d := after(t, append(pressed(), "disk 420", "boot 1 120 80", "begin", "send -")...)
	all(t, d, "error 80", "send 00")
	all(t, d, ok, "begin", "send -")
	all(t, d, long, "send 0000")
	all(t, d, ok, "begin", "step")
	all(t, d, long, "step")
	plays(t, d, "want", wanted)
}

// P17.1: clock. What the updater knows of the time never goes back; what the desk tells it does.
func TestClock(t *testing.T) {
	d := after(t, upTo()...)
	clock := func(n, is string) {
		t.Helper()
		all(t, d, ok, "clock "+n)
		plays(t, d, "status", "versions 1 0 0 0 active 0 stale clock "+is)
	}
	clock("5", "5")
	clock("3", "3")
	clock("-9223372036854775808", "0")
	clock("4611686018427387905", "4611686018427387904")
	clock("9223372036854775807", "4611686018427387904")
	clock("7", "7")
	all(t, d, ok, "begin")
	clock("6", "7")
	all(t, d, ok, "send -")
	clock("9", "9")
	clock("0", "7")
	all(t, d, ok, "disk 420", "clock 8", bootIt) // the clock is the desk's, and stays with it
	plays(t, d, "status", "versions 1 0 0 0 active 0 stale clock 8")
	all(t, d, noLine, "clock", "clock x", "clock 1 2", "clock 1.5", "clock -", "clock 9223372036854775808", "clock -9223372036854775809", "clock +1", "clock -0", "clock 00")
	plays(t, d, "status", "versions 1 0 0 0 active 0 stale clock 8")
}

// P17.1: an update is at the desk's clock, step by step.
func TestStepsAtTheClock(t *testing.T) {
	for n, want := range []string{"error 83", "error 83", "error 83", "error 83", "steps 5"} { // the root, three records; chunks have no time
		d := after(t, append(upTo(), "begin")...)
		plays(t, d, fmt.Sprintf("fetch %d", n), fmt.Sprintf("steps %d", n))
		all(t, d, ok, "clock 90")
		plays(t, d, "fetch 30", want)
	}
	d := after(t, append(upTo(), "clock 79", "begin")...)
	plays(t, d, "fetch 30", "steps 9", "status", "versions 1 1 1 1 active 1 fresh clock 79")
	all(t, d, ok, "clock 80")
	plays(t, d, "status", "versions 1 1 1 1 active 1 stale clock 80")
	all(t, d, ok, "begin", "step")
	all(t, d, "error 83", "step")
}

// P17.1: begin, want and step.
func TestStep(t *testing.T) {
	d := after(t, upTo()...)
	all(t, d, "error 1", "step") // of nothing that is wanted there is no answer
	all(t, d, ok, "begin", "begin")
	for _, w := range []string{"1 2 0", "2 0 0", "3 1 0", "4 1 0", "5 1 0", "5 1 1", "5 1 2", "5 1 3", "5 1 4"} {
		plays(t, d, "want", "want "+w, "active", noSuch)
		all(t, d, ok, "step")
	}
	plays(t, d, "want", wanted, "active", serving(first()))
	all(t, d, "error 1", "step", "step")
	all(t, d, noLine, "begin ", "begin 0", "step 1", "step ", "want 0", "want ", "status 0", "active 1", " want", "WANT", "wan", "want\n", "want\r", "want\t")
}

// P17.1: step asks for a chunk that the edition of now may not have.
func TestStepIntoAnotherEdition(t *testing.T) {
	d := after(t, append(upTo(), "issue 1 80 64", "begin")...)
	plays(t, d, "fetch 54", "steps 54", "want", "want 5 1 50")
	all(t, d, ok, "issue 2 80 1000")
	all(t, d, "error 1", "step", "fetch 3")
	plays(t, d, "want", "want 5 1 50", "fetch 0", "steps 0")
	all(t, d, ok, "issue 2 80 80")
	all(t, d, "error 85", "step") // there is one, of more bytes
	plays(t, d, "want", wanted)
}

// P17.1: send.
func TestSend(t *testing.T) {
	d := after(t, upTo()...)
	all(t, d, "error 86", "send -", "send 00")
	all(t, d, ok, "begin")
	all(t, d, noLine, "send", "send ", "send 0", "send 0g", "send 00 00", "send 00-", "send AA", "send --", "send 0 0")
	plays(t, d, "want", "want 1 2 0")
	all(t, d, ok, "send -")
	plays(t, d, "want", "want 2 0 0")
	all(t, d, "error 80", "send 3c")
	plays(t, d, "want", wanted)
	all(t, d, ok, "begin")
	all(t, d, long, "send "+strings.Repeat("00", 4097))
	all(t, d, ok, "begin")
	all(t, d, "error 80", "send "+strings.Repeat("00", 4096))
}

// P17.1: send takes the bytes of any reply.
func TestSendOfAnEdition(t *testing.T) {
	d := after(t, append(upTo(), "begin")...)
	m := newModel()
	for _, l := range append(upTo(), "begin") {
		m.line(l)
	}
	for m.up.Want().Kind != 0 {
		all(t, d, ok, "send "+hexOf(m.reply()))
		m.line("step")
	}
	plays(t, d, "active", serving(first()))
}

// P17.1: fetch.
func TestFetch(t *testing.T) {
	d := after(t, upTo()...)
	plays(t, d, "fetch 0", "steps 0", "fetch 1", "steps 0", "fetch 200", "steps 0")
	all(t, d, noLine, "fetch", "fetch -1", "fetch 201", "fetch x", "fetch 1 1", "fetch 01", "fetch 9223372036854775807", "fetch -")
	all(t, d, ok, "begin")
	plays(t, d, "fetch 0", "steps 0", "want", "want 1 2 0", "fetch 1", "steps 1", "want", "want 2 0 0", "fetch 6", "steps 6", "want", "want 5 1 3", "fetch 2", "steps 2")
	plays(t, d, "want", wanted, "fetch 5", "steps 0", "active", serving(first()))
	// Just 200, and those behind them.
	all(t, d, ok, "clear", "letters")
	v := letters()
	for i := range 500 {
		text := fmt.Sprintf("<%04d-abcdefghijklmnopqr>", i)
		all(t, d, ok, "special "+hexOf([]byte(text)))
		v.Tokens = append(v.Tokens, api.Token{Bytes: []byte(text), Special: true})
	}
	all(t, d, ok, "issue 2 80 100", "disk 1640", "boot 4096 120 700", "begin")
	plays(t, d, "fetch 200", "steps 200", "want", "want 5 2 196", "fetch 200", "steps 53", "active", serving(v))

}

// P17.1: a fetch that fails tells why, and leaves what its steps did.
func TestFetchThatFails(t *testing.T) {
	d := after(t, append(upTo(), "cut 9 -", "begin")...)
	plays(t, d, "fetch 30", "error 60", "status", "error 60", "want", "want 1 2 0", "fetch 3", "error 60", "fetch 0", "steps 0", "step", "error 60")
	all(t, d, ok, bootIt)
	d = after(t, append(upTo(), "begin")...)
	all(t, d, ok, "keys 3 1 9", "issue 1 80 1000")
	plays(t, d, "fetch 30", "error 81", "want", wanted, "status", "versions 1 1 1 0 active 0 fresh clock 0")
}

// P17.1: status.
func TestStatus(t *testing.T) {
	d := after(t, upTo()...)
	plays(t, d, "status", "versions 1 0 0 0 active 0 stale clock 0")
	all(t, d, ok, "issue 300 80 1000", "begin", "step", "step")
	plays(t, d, "status", "versions 1 300 0 0 active 0 fresh clock 0")
	all(t, d, ok, "step")
	plays(t, d, "status", "versions 1 300 300 0 active 0 fresh clock 0")
	all(t, d, ok, "step")
	plays(t, d, "status", "versions 1 300 300 300 active 0 fresh clock 0", "fetch 30", "steps 5", "status", "versions 1 300 300 300 active 300 fresh clock 0")
	all(t, d, ok, "clear", "letters", "issue 400 99 1000", "begin", "step", "step", "step", "step")
	plays(t, d, "status", "versions 1 400 400 400 active 300 fresh clock 0")
	all(t, d, ok, "clock 90")
	plays(t, d, "status", "versions 1 400 400 400 active 300 stale clock 90") // the root has expired
}

// P17.1: encode and decode.
func TestTexts(t *testing.T) {
	d := fetched(t)
	plays(t, d,
		"encode -", "tokens", "decode", "text -",
		"encode 00", "tokens 0", "encode ff61", "tokens 255 97", "encode 6162", "tokens 256", "encode 61626162", "tokens 256 256", "encode 6261", "tokens 98 97",
		"decode 97 98 256 255 0", "text 61626162ff00",
		"decode 257", "error 100", "decode -1", "error 100", "decode 97 9223372036854775807", "error 100", "decode -9223372036854775808", "error 100",
		"encode "+strings.Repeat("6162", 1<<13), "tokens"+words(1<<13, "256"),
		"encode "+strings.Repeat("61", 1<<14+1), long,
		"decode"+words(1<<14, "256"), "text "+strings.Repeat("6162", 1<<14),
		"decode"+words(1<<14+1, "97"), long,
		"decode"+words(1<<14+1, "999"), long,
	)
	all(t, d, noLine, "encode", "encode ", "encode 6", "encode 61 62", "encode 6G", "encode a", "decode ", "decode x", "decode 97 ", "decode  97", "decode -", "decode 097", "decode 97 9223372036854775808")
	all(t, d, ok, "lose -")
	all(t, d, "error 60", "encode 61", "encode "+strings.Repeat("61", 1<<14+1), "decode 97", "decode 999", "active")
}

// P17.1: texts are cut by the vocabulary that is served, not by that of the press.
func TestTextsByWhatIsServed(t *testing.T) {
	d := fetched(t)
	all(t, d, ok, "clear", "letters", "issue 2 80 1000", "begin")
	plays(t, d, "fetch 8", "steps 8", "encode 6162", "tokens 256", "fetch 1", "steps 1", "encode 6162", "tokens 97 98", "decode 256", "error 100")
}

// P17.1: cut.
func TestCut(t *testing.T) {
	d := after(t, upTo()...)
	all(t, d, noLine, "cut", "cut 0", "cut 0 ", "cut 0 2", "cut 0 1 1", "cut - 1", "cut 0 012", "cut 0 -1", "cut 0 1-", "cut 0 --", "cut x -", "cut 0x1 -")
	all(t, d, "error 1", "cut -1 -", "cut -9223372036854775808 1", "cut -1 "+strings.Repeat("1", 4097))
	all(t, d, long, "cut 0 "+strings.Repeat("1", 4097), "cut 0 "+strings.Repeat("0", 100000))
	all(t, d, ok, "begin") // none of these was set
	all(t, d, ok, "cut 0 "+strings.Repeat("1", 4096), "cut 9223372036854775807 -", "begin", "cut 1 0", bootIt, "begin")
	all(t, d, ok, "cut 1 -")
	all(t, d, "error 60", "begin", "begin", "status")
	all(t, d, ok, "cut 0 1", bootIt, "begin") // what was set ahead of the boot is no more
}

// P17.1: with the bits of a cut a held write is put or lost: here those of a state that is put, the clock in it.
func TestCutWithBits(t *testing.T) {
	seen := map[string]int{}
	for n := range 6 {
		for _, bits := range []string{"-", "0", "1", "01", "10", "11", "00000000", "11111111"} {
			d, m := desk.New(), newModel()
			for _, l := range append(upTo(), "clock 7", fmt.Sprintf("cut %d %s", n, bits), "begin", "status", bootIt, "clock 0", "status", "begin", "status") {
				a := d.Line(l)
				if want := m.line(l); a != want {
					t.Errorf("cut %d %s: %s: %s, not %s", n, bits, l, a, want)
				}
				seen[a]++
			}
		}
	}
	for _, clock := range []string{"0", "7"} {
		if seen["versions 1 0 0 0 active 0 stale clock "+clock] < 2 {
			t.Errorf("no clock %s behind a cut", clock)
		}
	}
}

// P17.1: lose.
func TestLose(t *testing.T) {
	d := fetched(t)
	all(t, d, noLine, "lose", "lose ", "lose 2", "lose 1 1", "lose x", "lose 01-", "lose --", "Lose -")
	plays(t, d, "active", serving(first()))
	all(t, d, ok, "lose 1", "lose -", "lose "+strings.Repeat("1", 5000), "cut 0 -")
	all(t, d, "error 60", "active", "status", "begin", "encode 61")
	plays(t, d, "want", wanted, "fetch 3", "steps 0", "step", "error 1")
	all(t, d, ok, bootIt)
	plays(t, d, "active", serving(first()))
	all(t, d, ok, "begin")
}

// P17.1: a line has at most 2^17 bytes.
func TestLongLines(t *testing.T) {
	d := desk.New()
	pad := func(line, with string, n int) string { return line + strings.Repeat(with, n-len(line)) }
	all(t, d, ok, pad("special ", "0", aLine), "disk 9")
	all(t, d, noLine, pad("special ", "0", aLine-1), pad("", " ", aLine), "keys 0 1"+words((aLine-8)/2, "x"), pad("want", "t", aLine), "merge"+words((aLine-5)/2, "0"))
	all(t, d, long, pad("special ", "0", aLine+1), pad("special ", "0", aLine+2), pad("want", " ", aLine+1), pad("", "x", 1<<20), pad("boot 1 1 ", "1", aLine+1))
}

// P17.1: lines of which there is none.
func TestNoLines(t *testing.T) {
	for _, d := range []*desk.Desk{desk.New(), fetched(t)} {
		all(t, d, noLine, "", " ", "  ", "-", "0", "foo", "ok", "error 120", "\n", "want\n", "want want", "\x00", "\xff", "wänt", "WANT", "want\u00a0", "letters\n", "versions", "steps 3", "tokens", "text -")
	}
}
