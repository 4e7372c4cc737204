package terminal_test

import (
	"fmt"
	"math/big"
	"math/rand"
	"slices"
	"strings"
	"testing"

	"bushel/api"
	"bushel/terminal"
)

// sumOf returns the check sum of a text: the digits of a number in the base 131, of which the first one is 7, modulo 1000003.
func sumOf(text string) string {
	n := big.NewInt(7)
	for i := range len(text) {
		n.Mul(n, big.NewInt(131))
		n.Add(n, big.NewInt(int64(text[i])))
	}
	return n.Mod(n, big.NewInt(1000003)).String()
}

// summed returns a text with its check sum behind it.
func summed(text string) string { return text + " " + sumOf(text) }

// closing is the event of the document's last example.
func closing() api.Event { return event(1, 3, "close oslo") }

// logOf returns the log of events.
func logOf(t *testing.T, l []api.Event) string {
	t.Helper()
	log := ""
	for _, e := range l {
		log += ok[string](t, "Encode")(terminal.Encode(e)) + "\n"
	}
	return log
}

func TestTextsOfEvents(t *testing.T) {
	for _, x := range []struct {
		e    api.Event
		text string
	}{
		{closing(), "1 3 close oslo 429037"},
		{event(1, 3, "bin east mass 1 0 100 50"), "1 3 bin east mass 1 0 100 50 860055"},
		{event(4, 3, "arrive blue wheat 20"), "4 3 arrive blue wheat 20 760663"},
		{event(1000, 100000, "dry east west 0 999999999 1 7"), "1000 100000 dry east west 0 999999999 1 7 143672"},
		{event(2, 0, "issue A.b-c_9 0 0"), summed("2 0 issue A.b-c_9 0 0")},
	} {
		expect(t, x.text, ok[string](t, x.text)(terminal.Encode(x.e)), x.text)
		expect(t, "Decode of "+x.text, ok[api.Event](t, x.text)(terminal.Decode(x.text)), x.e)
	}
	for kind, shape := range shapes() {
		e := api.Event{Number: 7, Day: 10, Kind: kind, Names: slices.Repeat([]string{"east"}, shape[0]), Masses: slices.Repeat([]int{10}, shape[1])}
		text := ok[string](t, kind)(terminal.Encode(e))
		expect(t, kind, text, summed(strings.TrimRight(fmt.Sprint("7 10 ", kind, strings.Repeat(" east", shape[0]), strings.Repeat(" 10", shape[1])), " ")))
		expect(t, "Decode of "+kind, ok[api.Event](t, kind)(terminal.Decode(text)), e)
	}
}

func TestErrorsOfEncodeAndAppend(t *testing.T) {
	log := logOf(t, example(10))
	for _, bad := range badEvents() {
		e := stored()
		bad.change(&e)
		text, errno := terminal.Encode(e)
		expect(t, "Encode of "+bad.what, []any{text, errno}, []any{"", bad.e})
		text, errno = terminal.Append(log, e)
		expect(t, "Append of "+bad.what, []any{text, errno}, []any{"", bad.e})
		text, errno = terminal.Append(log+"x", e)
		expect(t, "Append to a torn log", []any{text, errno}, []any{"", api.ErrTorn})
	}
	for _, x := range []struct {
		log string
		e   api.Errno
	}{{"1", api.ErrTorn}, {log[:len(log)-1], api.ErrTorn}, {log + "\n", api.ErrSyntax}, {log + strings.Replace(log, "1", "2", 1), api.ErrSum}, {strings.Repeat("x", 1000001), api.ErrLong}, {strings.Repeat("x", 4097) + "\n", api.ErrLong}} {
		text, e := terminal.Append(x.log, closing())
		expect(t, "Append to a bad log", []any{text, e}, []any{"", x.e})
	}
}

func TestAppend(t *testing.T) {
	log := ""
	for _, e := range example(10) {
		log = ok[string](t, "Append")(terminal.Append(log, e))
	}
	expect(t, "a log", log, logOf(t, example(10)))
	// A log need not have accepted events.
	longer := ok[string](t, "Append")(terminal.Append(log, closing()))
	expect(t, "a longer log", longer, log+"1 3 close oslo 429037\n")
	expect(t, "a log behind no events", ok[string](t, "Append")(terminal.Append("", closing())), "1 3 close oslo 429037\n")
}

func TestErrorsOfDecode(t *testing.T) {
	for _, x := range []struct {
		text string
		e    api.Errno
	}{
		{strings.Repeat("x", 4097), api.ErrLong}, {strings.Repeat("x", 4096), api.ErrSyntax}, {strings.Repeat("x ", 2048) + "1", api.ErrLong},
		{"", api.ErrSyntax}, {" ", api.ErrSyntax}, {"1", api.ErrSyntax}, {summed("1 3"), api.ErrSyntax}, {"1 3 0", api.ErrSyntax}, {"1 3 close 0", api.ErrSum},
		{" 1 3 close oslo 0", api.ErrSyntax}, {"1 3  close oslo 0", api.ErrSyntax}, {"1 3 close oslo 0 ", api.ErrSyntax}, {"1 3 close oslo", api.ErrSyntax},
		{summed(" 1 3 close oslo"), api.ErrSyntax}, {summed("1 3 close  oslo"), api.ErrSyntax}, {summed("1 3 close oslo "), api.ErrSyntax},
		{"1 3 close oslo x", api.ErrSyntax}, {"1 3 close oslo 0429037", api.ErrSyntax}, {"1 3 close oslo 1000000000", api.ErrSyntax}, {"1 3 close oslo 999999999", api.ErrSum},
		{"1 3 close oslo +429037", api.ErrSyntax}, {"1 3 close oslo -1", api.ErrSyntax}, {"1 3 close oslo -0", api.ErrSyntax}, {"1 3 close oslo 00", api.ErrSyntax},
		{"1 3 close oslo 0x1", api.ErrSyntax}, {"1 3 close oslo 1_0", api.ErrSyntax}, {"1 3 close oslo 1.0", api.ErrSyntax}, {"1 3 close oslo ٣", api.ErrSyntax}, {"1 3 close oslo 429037\n", api.ErrSyntax},
		{"1 3 close oslo 0", api.ErrSum}, {"1 3 close oslo 429038", api.ErrSum}, {"1 3 close oslp 429037", api.ErrSum}, {"a b c 0", api.ErrSum}, {"1 3 close\toslo x 0", api.ErrSum}, {"1 3 close os\nlo 0", api.ErrSum},
		{"1 3 close oslo 1429040", api.ErrSum},
		{summed("a b c"), api.ErrSyntax}, {summed("1 3 close"), api.ErrSyntax}, {summed("1 3 close oslo x"), api.ErrSyntax}, {summed("1 3 open oslo"), api.ErrSyntax}, {summed("1 3 open"), api.ErrSyntax},
		{summed("01 3 close oslo"), api.ErrSyntax}, {summed("1 03 close oslo"), api.ErrSyntax}, {summed("0 3 close oslo"), api.ErrSyntax}, {summed("1001 3 close oslo"), api.ErrSyntax},
		{summed("-1 3 close oslo"), api.ErrSyntax}, {summed("+1 3 close oslo"), api.ErrSyntax}, {summed("1 100001 close oslo"), api.ErrSyntax}, {summed("1 -0 close oslo"), api.ErrSyntax}, {summed("1 x close oslo"), api.ErrSyntax},
		{summed("1 3 close os/lo"), api.ErrSyntax}, {summed("1 3 close os\nlo"), api.ErrSyntax}, {summed("1 3 close " + strings.Repeat("x", 25)), api.ErrSyntax}, {summed("1 3 Close oslo"), api.ErrSyntax},
		{summed("1 3 issue ann wheat"), api.ErrSyntax}, {summed("1 3 issue ann wheat 05"), api.ErrSyntax}, {summed("1 3 issue ann wheat -5"), api.ErrSyntax}, {summed("1 3 issue ann wheat 1000000000"), api.ErrSyntax},
		{summed("1 3 issue ann wheat 5 6"), api.ErrSyntax}, {summed("1 3 issue ann 5"), api.ErrSyntax}, {summed("1 3 issue ann wheat x"), api.ErrSyntax},
		{summed("1 3 issue ann wheat 999999999"), api.OK}, {summed("1 3 issue ann wheat 0"), api.OK}, {summed("1 0 close " + strings.Repeat("x", 24)), api.OK},
	} {
		e, errno := terminal.Decode(x.text)
		expect(t, fmt.Sprintf("Decode of %.100q", x.text), errno, x.e)
		if errno != api.OK {
			expect(t, fmt.Sprintf("the event of %.100q", x.text), e, api.Event{})
		}
	}
}

func TestRecover(t *testing.T) {
	log := logOf(t, example(10))
	one := "1 3 close oslo 429037\n"
	for _, x := range []struct {
		what   string
		log    string
		events []api.Event
		length int
		e      api.Errno
	}{
		{"nothing", "", nil, 0, api.OK},
		{"a log", log, example(10), len(log), api.OK},
		{"events that are not accepted", one + one, []api.Event{closing(), closing()}, 44, api.OK},
		{"a torn event", one + one[:21], []api.Event{closing()}, 22, api.ErrTorn},
		{"a torn text that is none", one + "x y", []api.Event{closing()}, 22, api.ErrTorn},
		{"a long torn text", one + strings.Repeat("x", 5000), []api.Event{closing()}, 22, api.ErrTorn},
		{"a wrong sum and more", one + "1 3 close oslo 429038\n" + one, []api.Event{closing()}, 22, api.ErrSum},
		{"a wrong sum and a torn event", one + "1 3 close oslo 429038\n1", []api.Event{closing()}, 22, api.ErrSum},
		{"an empty line", one + "\n" + one, []api.Event{closing()}, 22, api.ErrSyntax},
		{"a line feed alone", "\n", nil, 0, api.ErrSyntax},
		{"a carriage return", "1 3 close oslo 429037\r\n", nil, 0, api.ErrSyntax},
		{"a long line", one + strings.Repeat("x", 4097) + "\n" + one, []api.Event{closing()}, 22, api.ErrLong},
		{"a text of 1000000 bytes", one + strings.Repeat("x", 999978), []api.Event{closing()}, 22, api.ErrTorn},
		{"a text of 1000001 bytes", one + strings.Repeat("x", 999979), nil, 0, api.ErrLong},
	} {
		events, length, e := terminal.Recover(x.log)
		expect(t, x.what, events, x.events)
		expect(t, x.what, []any{length, e}, []any{x.length, x.e})
	}
}

// TestRecoverOfDamagedLogs changes single bytes of logs.
func TestRecoverOfDamagedLogs(t *testing.T) {
	r := rand.New(rand.NewSource(13))
	l := example(10)
	log := logOf(t, l)
	for i := range len(log) {
		damaged := []byte(log)
		for damaged[i] == log[i] {
			damaged[i] = byte(r.Intn(128))
		}
		whole := strings.Count(log[:i], "\n")
		events, length, e := terminal.Recover(string(damaged))
		expect(t, fmt.Sprintf("%q", damaged), events, l[:whole])
		expect(t, fmt.Sprintf("length of %q", damaged), length, len(logOf(t, l[:whole])))
		if e == api.OK || e == api.ErrTorn && i < len(log)-1 {
			t.Errorf("%q: error %d", damaged, e)
		}
	}
}

// TestRecoverOfMixedLines checks the longest beginning that is a log against all beginnings.
func TestRecoverOfMixedLines(t *testing.T) {
	r := rand.New(rand.NewSource(14))
	pieces := []string{"1 3 close oslo 429037\n", "1 3 bin east mass 1 0 100 50 860055\n", "4 3 arrive blue wheat 20 760663\n", "4 3 arrive blue wheat 20 760663", "\n", "1 3 close oslo 429038\n", summed("1 3 open oslo") + "\n", "x"}
	for range 400 {
		text := ""
		for range r.Intn(8) {
			text += pieces[r.Intn(3+r.Intn(len(pieces)-2))]
		}
		longest, count := 0, 0
		for end := range len(text) + 1 {
			beginning := text[:end]
			lines := strings.SplitAfter(beginning, "\n")
			isLog := lines[len(lines)-1] == ""
			for _, line := range lines[:len(lines)-1] {
				_, e := terminal.Decode(strings.TrimSuffix(line, "\n"))
				isLog = isLog && e == api.OK
			}
			if isLog {
				longest, count = end, len(lines)-1
			}
		}
		want := api.OK
		line, _, isWhole := strings.Cut(text[longest:], "\n")
		if isWhole {
			_, want = terminal.Decode(line)
		} else if longest < len(text) {
			want = api.ErrTorn
		}
		events, length, e := terminal.Recover(text)
		expect(t, fmt.Sprintf("Recover of %q", text), []any{len(events), length, e}, []any{count, longest, want})
		expect(t, "the log of these events", logOf(t, events), text[:longest])
	}
}
