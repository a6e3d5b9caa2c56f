package desk_test

import (
	"fmt"
	"strings"
	"testing"

	"imprimatur/api"
	"imprimatur/desk"
)

// runs tells of a script that answers otherwise.
func runs(t *testing.T, what, script, answers string) {
	t.Helper()
	s, e := desk.Run(script)
	if e != api.OK || s != answers {
		t.Errorf("%s: error %d and %s, not %s", what, e, brief(s), brief(answers))
	}
}

// tooLong tells of a script that is played though there is too much of it.
func tooLong(t *testing.T, what, script string) {
	t.Helper()
	if s, e := desk.Run(script); e != api.ErrLong || s != "" {
		t.Errorf("%s: error %d, not ErrLong, or %d bytes beside", what, e, len(s))
	}
}

// P17.2: where lines end.
func TestLines(t *testing.T) {
	runs(t, "no lines", "", "")
	runs(t, "an empty line", "\n", "error 120\n")
	runs(t, "two empty lines", "\n\n", "error 120\nerror 120\n")
	runs(t, "a line", "clear\n", "ok\n")
	runs(t, "a line that is not ended", "clear", "ok\n")
	runs(t, "two lines", "clear\nfoo\n", "ok\nerror 120\n")
	runs(t, "two lines, one of which is not ended", "foo\nclear", "error 120\nok\n")
	runs(t, "an empty line ahead of another", "\nclear\n", "error 120\nok\n")
	runs(t, "an empty line behind another", "clear\n\n", "ok\nerror 120\n")
	runs(t, "a blank that is not ended", "clear\n ", "ok\nerror 120\n")
	runs(t, "other ends of lines", "clear\r\nclear\rclear\x00clear\nclear", "error 120\nerror 120\nok\n")
}

// P17.2: each script is played on a desk of its own.
func TestRunOnANewDesk(t *testing.T) {
	for range 2 {
		runs(t, "a disk", "lose -\ndisk 4\nlose -\n", "error 111\nok\nok\n")
	}
}

// P17.2: a script of as many lines as there may be, and of one more.
func TestManyLines(t *testing.T) {
	runs(t, "1000 lines", strings.Repeat("clear\n", 1000), strings.Repeat("ok\n", 1000))
	runs(t, "1000 lines, one of which is not ended", strings.Repeat("clear\n", 999)+"clear", strings.Repeat("ok\n", 1000))
	runs(t, "1000 empty lines", strings.Repeat("\n", 1000), strings.Repeat("error 120\n", 1000))
	tooLong(t, "1001 lines", strings.Repeat("clear\n", 1001))
	tooLong(t, "1001 lines, one of which is not ended", strings.Repeat("clear\n", 1000)+"clear")
	tooLong(t, "1001 lines, the last one a blank", strings.Repeat("clear\n", 1000)+" ")
	tooLong(t, "1001 empty lines", strings.Repeat("\n", 1001))
	tooLong(t, "lines and lines", strings.Repeat("\n", api.MaxScript))
}

// P17.2: a script of as many bytes as there may be, and of one more. Lines that are too long are just refused.
func TestManyBytes(t *testing.T) {
	eighth := strings.Repeat("x", 1<<17-1) + "\n"
	runs(t, "2^20 bytes", strings.Repeat(eighth, 8), strings.Repeat("error 120\n", 8))
	tooLong(t, "a byte more", strings.Repeat(eighth, 8)+"x")
	tooLong(t, "an empty line more", strings.Repeat(eighth, 8)+"\n")
	runs(t, "a line of 2^20 bytes", strings.Repeat("x", 1<<20), "error 2\n")
	runs(t, "a line of 2^17 bytes", strings.Repeat("x", 1<<17)+"\nclear", "error 120\nok\n")
	runs(t, "a line of a byte more", strings.Repeat("x", 1<<17+1)+"\nclear", "error 2\nok\n")
	tooLong(t, "a line of 2^20 bytes and one more", strings.Repeat("x", 1<<20+1))
	tooLong(t, "too many lines and bytes", strings.Repeat(eighth, 1001))
}

// P17.2: long answers.
func TestLongAnswers(t *testing.T) {
	l := append(upTo(), "begin", "fetch 30")
	answers := strings.Repeat("ok\n", len(l)-1) + "steps 9\n"
	for range 10 {
		l = append(l, "decode"+words(1<<14, "256"))
		answers += "text " + strings.Repeat("6162", 1<<14) + "\n"
	}
	runs(t, "long answers", strings.Join(l, "\n"), answers)
}

// P17.2, P17.3: all that a script answers is what its lines do, one by one; what the first lines answer is the beginning.
func TestFirstLines(t *testing.T) {
	t.Parallel()
	l := tenExamples()
	script, answers := "", ""
	for i := 0; i < len(l); i += 2 {
		runs(t, fmt.Sprint("the first lines, up to ", i/2), script, answers)
		script += l[i] + "\n"
		answers += l[i+1] + "\n"
		runs(t, fmt.Sprint("the first lines, not ended, up to ", i/2), strings.TrimSuffix(script, "\n"), answers)
	}
}
