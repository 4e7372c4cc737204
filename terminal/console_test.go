package terminal_test

import (
	"fmt"
	"math/rand"
	"slices"
	"strings"
	"testing"

	"bushel/api"
	"bushel/terminal"
)

// exchange is a line with its answer or its error.
type exchange struct {
	line   string
	answer string
	e      api.Errno
}

// converse runs lines, and checks that an error changes nothing.
func converse(t *testing.T, s *terminal.Session, exchanges ...exchange) {
	t.Helper()
	for _, x := range exchanges {
		before := s.Log()
		answer, e := s.Do(x.line)
		expect(t, fmt.Sprintf("%.100q", x.line), []any{answer, e}, []any{x.answer, x.e})
		if e != api.OK {
			expect(t, fmt.Sprintf("log behind %.100q", x.line), s.Log(), before)
		}
	}
}

// exampleSession returns a session with the events of the document's examples.
func exampleSession(t *testing.T) *terminal.Session {
	t.Helper()
	s := terminal.New()
	converse(t, s, exchange{"day 3", "day 3", api.OK})
	for i, text := range exampleTexts() {
		converse(t, s, exchange{text, fmt.Sprint("event ", i+1), api.OK})
	}
	return s
}

func TestConsole(t *testing.T) {
	s := exampleSession(t)
	expect(t, "the events", s.Events(), example(10))
	expect(t, "the log", s.Log(), logOf(t, example(10)))
	report := "day 3\nbin east 14\nbin west 0 27\nlot blue wheat 20 0\nlot red wheat 40 10\nship oslo wheat 9 open\nreceipt ann wheat 50"
	converse(t, s,
		exchange{"stock wheat", "51", api.OK},
		exchange{"stock rye", "0", api.OK},
		exchange{"trace oslo", "blue 6, red 3", api.OK},
		exchange{"reach red", "oslo", api.OK},
		exchange{"recall red", "oslo 3", api.OK},
		exchange{"recall blue red", "oslo 9", api.OK},
		exchange{"journey blue", "4 6 7 9", api.OK},
		exchange{"balance", "blue 20 0 14 6 0; red 40 10 27 3 0", api.OK},
		exchange{"report", report, api.OK},
		exchange{"load oslo west 1 2", "", api.ErrBalance},
		exchange{"ship Riga mix 5", "event 11", api.OK},
		exchange{"trace Riga", "none", api.OK},
		exchange{"day 5", "day 5", api.OK},
		exchange{"report", strings.Replace(report, "ship oslo", "ship Riga mix 0 open\nship oslo", 1), api.OK},
		exchange{"arrive green rye 7", "event 12", api.OK},
		exchange{"reach green", "none", api.OK},
		exchange{"recall green", "none", api.OK},
		exchange{"journey green", "12", api.OK},
		exchange{"store green east 0 7", "", api.ErrGrain},
		exchange{"store green west 0 7", "event 13", api.OK},
		exchange{"blend turku mix 50", "event 14", api.OK},
		exchange{"load turku west 0 3", "event 15", api.OK},
		exchange{"load turku west 1 1", "event 16", api.OK},
		exchange{"close oslo", "event 17", api.OK},
		exchange{"load oslo west 1 1", "", api.ErrState},
		exchange{"recall red blue green", "oslo 9, turku 4", api.OK},
		exchange{"reach red", "oslo turku", api.OK},
		exchange{"cancel ann wheat 5", "event 18", api.OK},
		exchange{"dry west east 1 0 26 21", "event 19", api.OK},
		exchange{"issue ann rye 4", "event 20", api.OK},
		exchange{"dry west west 0 1 4 3", "", api.ErrBalance},
		exchange{"report", "day 5\nbin east 35\nbin west 4 0\nlot blue wheat 20 0\nlot green rye 7 0\nlot red wheat 40 10\nship Riga mix 0 open\nship oslo wheat 9 closed\nblend turku mix 4 open\nreceipt ann rye 4\nreceipt ann wheat 45\nlost red 5", api.OK},
	)
	expect(t, "the days", []any{s.Events()[10].Day, s.Events()[11].Day, len(s.Events())}, []any{3, 5, 20})
}

func TestLinesWithErrors(t *testing.T) {
	s := exampleSession(t)
	long := strings.Repeat("x", 4090)
	for _, x := range []exchange{
		{strings.Repeat("x", 4097), "", api.ErrLong}, {strings.Repeat(" ", 4097), "", api.ErrLong}, {strings.Repeat("x", 4096), "", api.ErrKind}, {"stock " + long, "", api.ErrName},
		{"", "", api.ErrSyntax}, {" ", "", api.ErrSyntax}, {" report", "", api.ErrSyntax}, {"report ", "", api.ErrSyntax}, {"stock  wheat", "", api.ErrSyntax},
		{"report\n", "", api.ErrSyntax}, {"\nreport", "", api.ErrSyntax}, {"x\ny", "", api.ErrSyntax}, {"stock wh\neat", "", api.ErrSyntax}, {"\n", "", api.ErrSyntax},
		{"Report", "", api.ErrKind}, {"report\t", "", api.ErrKind}, {"event 1", "", api.ErrKind}, {"lot red", "", api.ErrKind}, {"x", "", api.ErrKind}, {"none none", "", api.ErrKind},
		{"day", "", api.ErrSyntax}, {"day 3 4", "", api.ErrSyntax}, {"day x", "", api.ErrSyntax}, {"day 03", "", api.ErrSyntax}, {"day -1", "", api.ErrSyntax}, {"day +4", "", api.ErrSyntax},
		{"day 1000000000", "", api.ErrSyntax}, {"day 00", "", api.ErrSyntax}, {"day 4.0", "", api.ErrSyntax},
		{"day 999999999", "", api.ErrDay}, {"day 100001", "", api.ErrDay}, {"day 2", "", api.ErrDay}, {"day 0", "", api.ErrDay},
		{"arrive", "", api.ErrSyntax}, {"arrive green", "", api.ErrSyntax}, {"arrive green rye", "", api.ErrSyntax}, {"arrive green rye 5 6", "", api.ErrSyntax}, {"arrive gr/een rye x", "", api.ErrSyntax},
		{"arrive green rye 05", "", api.ErrSyntax}, {"arrive green rye -5", "", api.ErrSyntax}, {"arrive green rye 1000000000", "", api.ErrSyntax}, {"arrive red rye 1e3", "", api.ErrSyntax},
		{"arrive gr/een rye 0", "", api.ErrName}, {"arrive green ry\te 5", "", api.ErrName}, {"arrive red r:e 5", "", api.ErrName}, {"arrive " + strings.Repeat("x", 25) + " rye 5", "", api.ErrName},
		{"arrive red rye 0", "", api.ErrTwice}, {"arrive green rye 0", "", api.ErrRange}, {"close oslo 5", "", api.ErrSyntax}, {"close", "", api.ErrSyntax}, {"close riga", "", api.ErrUnknown},
		{"bin north mass 1 0 5", "", api.ErrSyntax}, {"bin north tower 1 0 5 5", "", api.ErrKind}, {"store red east 0 11", "", api.ErrEmpty}, {"move east east 0 0 1", "", api.ErrTwice},
		{"stock", "", api.ErrSyntax}, {"stock wheat rye", "", api.ErrSyntax}, {"stock wh/eat", "", api.ErrName},
		{"trace", "", api.ErrSyntax}, {"trace oslo oslo", "", api.ErrSyntax}, {"trace riga", "", api.ErrUnknown}, {"trace os/lo", "", api.ErrName},
		{"reach", "", api.ErrSyntax}, {"reach red blue", "", api.ErrSyntax}, {"reach pink", "", api.ErrUnknown}, {"reach pi/nk", "", api.ErrName},
		{"recall", "", api.ErrSyntax}, {"recall pink", "", api.ErrUnknown}, {"recall red blue red", "", api.ErrTwice}, {"recall" + strings.Repeat(" x", 65), "", api.ErrMany}, {"recall red /", "", api.ErrName},
		{"journey", "", api.ErrSyntax}, {"journey red blue", "", api.ErrSyntax}, {"journey pink", "", api.ErrUnknown}, {"journey p!nk", "", api.ErrName},
		{"balance red", "", api.ErrSyntax}, {"report oslo", "", api.ErrSyntax},
	} {
		converse(t, s, x)
		expect(t, "the events", s.Events(), example(10))
	}
	// None of them has changed the day, or another part of the state.
	converse(t, s, exchange{"day 3", "day 3", api.OK}, exchange{"balance", "blue 20 0 14 6 0; red 40 10 27 3 0", api.OK}, exchange{"issue ann wheat 2", "", api.ErrBalance}, exchange{"issue ann wheat 1", "event 11", api.OK})
}

func TestDaysOfASession(t *testing.T) {
	s := terminal.New()
	converse(t, s,
		exchange{"arrive red wheat 5", "event 1", api.OK},
		exchange{"day 0", "day 0", api.OK},
		exchange{"day 7", "day 7", api.OK},
		exchange{"day 6", "", api.ErrDay},
		exchange{"arrive blue wheat 5", "event 2", api.OK},
		exchange{"day 100000", "day 100000", api.OK},
		exchange{"day 99999", "", api.ErrDay},
		exchange{"report", "day 7\nlot blue wheat 5 5\nlot red wheat 5 5", api.OK},
	)
	expect(t, "the events", s.Events(), []api.Event{event(1, 0, "arrive red wheat 5"), event(2, 7, "arrive blue wheat 5")})
	again := ok[*terminal.Session](t, "Open")(terminal.Open(s.Log()))
	converse(t, again,
		exchange{"day 6", "", api.ErrDay},
		exchange{"arrive green wheat 5", "event 3", api.OK},
		exchange{"day 8", "day 8", api.OK},
	)
	expect(t, "the day of the third event", again.Events()[2].Day, 7)
}

func TestEmptySessions(t *testing.T) {
	for what, s := range map[string]*terminal.Session{"New": terminal.New(), "Open": ok[*terminal.Session](t, "Open")(terminal.Open("")), "Open of a torn log": ok[*terminal.Session](t, "Open")(terminal.Open("1 3 close oslo"))} {
		expect(t, what, []any{len(s.Events()), s.Log()}, []any{0, ""})
		converse(t, s, exchange{"report", "day 0", api.OK}, exchange{"balance", "none", api.OK}, exchange{"stock wheat", "0", api.OK}, exchange{"trace oslo", "", api.ErrUnknown}, exchange{"reach red", "", api.ErrUnknown}, exchange{"day 0", "day 0", api.OK})
	}
	var none *terminal.Session
	for _, line := range []string{"", "report", "x", strings.Repeat("x", 5000), "arrive red wheat 5"} {
		answer, e := none.Do(line)
		expect(t, "a nil session: "+line, []any{answer, e}, []any{"", api.ErrState})
	}
	expect(t, "a nil session", []any{len(none.Events()), none.Log()}, []any{0, ""})
}

func TestOpen(t *testing.T) {
	log := logOf(t, example(10))
	for _, x := range []struct {
		what string
		log  string
		n    int
		e    api.Errno
	}{
		{"a log", log, 10, api.OK},
		{"a torn log", log + "11 3 close oslo", 10, api.OK},
		{"a torn log with a whole text", log[:len(log)-1], 9, api.OK},
		{"an empty line", log + "\n", 0, api.ErrSyntax},
		{"a wrong sum", log + "1 3 close oslo 429038\n", 0, api.ErrSum},
		{"a wrong sum and a torn end", log + "1 3 close oslo 429038\n1", 0, api.ErrSum},
		{"a long line", log + strings.Repeat("x", 4097) + "\n", 0, api.ErrLong},
		{"a long text", strings.Repeat("x", 1000001), 0, api.ErrLong},
		{"a wrong number", log + "1 3 close oslo 429037\n", 0, api.ErrOrder},
		{"a wrong number and a torn end", log + "1 3 close oslo 429037\n1", 0, api.ErrOrder},
		{"an event that is not accepted", log + summed("11 3 close riga") + "\n", 0, api.ErrUnknown},
		{"a wrong sum behind an event that is not accepted", log + summed("11 3 close riga") + "\n1 3 close oslo 429038\n", 0, api.ErrSum},
		{"an earlier day", log + summed("11 2 close oslo") + "\n", 0, api.ErrDay},
	} {
		s, e := terminal.Open(x.log)
		expect(t, x.what, e, x.e)
		if (s == nil) != (x.e != api.OK) {
			t.Errorf("%s: session %v", x.what, s)
		}
		expect(t, x.what, []any{s.Events(), s.Log()}, []any{example(x.n), logOf(t, example(x.n))})
	}
	converse(t, ok[*terminal.Session](t, "Open")(terminal.Open(log)), exchange{"close oslo", "event 11", api.OK}, exchange{"journey red", "3 5 7 9", api.OK}, exchange{"day 2", "", api.ErrDay})
}

func TestReport(t *testing.T) {
	expect(t, "a report of nothing", ok[string](t, "Report")(terminal.Report(nil)), "day 0\n")
	l := then(example(7), "dry west east 1 0 35 30", "dry east west 0 0 44 43", "close oslo")
	_, e := terminal.Report(l)
	expect(t, "an error", e, api.ErrUnknown)
	// First 6 of blue and 29 of red lose 5 together, and then 134/7 of blue and 174/7 of red lose 1.
	want := "day 3\nbin east 0\nbin west 43 1\nlot blue wheat 20 0\nlot red wheat 40 10\nlost blue 199/154\nlost red 725/154\n"
	expect(t, "lost water", ok[string](t, "Report")(terminal.Report(l[:9])), want)
}

// reportOf returns the report of the model.
func (m *model) reportOf() string {
	lines := []string{fmt.Sprint("day ", m.day)}
	add := func(l ...any) { lines = append(lines, strings.TrimSuffix(fmt.Sprintln(l...), "\n")) }
	for _, name := range sortedKeys(m.silos) {
		words := []any{"bin", name}
		for _, cell := range m.silos[name].cells {
			words = append(words, len(cell))
		}
		add(words...)
	}
	for _, lot := range sortedKeys(m.grains) {
		add("lot", lot, m.grains[lot], m.arrived[lot], m.waiting[lot])
	}
	for _, name := range sortedKeys(m.cargoes) {
		c := m.cargoes[name]
		add(map[bool]string{false: "ship", true: "blend"}[c.isBlend], name, c.grain, len(c.inside), map[bool]string{false: "open", true: "closed"}[c.isClosed])
	}
	for _, x := range m.owners() {
		add("receipt", x.Holder, x.Grain, x.Mass)
	}
	for _, x := range asAmounts(m.lost) {
		add("lost", x.Lot, x.Mass)
	}
	return strings.Join(lines, "\n") + "\n"
}

// sortedKeys returns the keys of a map in ascending order.
func sortedKeys[T any](m map[string]T) []string {
	var keys []string
	for key := range m {
		keys = append(keys, key)
	}
	slices.Sort(keys)
	return keys
}

// TestSessionsAgainstTheModel checks answers and errors of random lines.
func TestSessionsAgainstTheModel(t *testing.T) {
	r := rand.New(rand.NewSource(15))
	for range 60 {
		s := terminal.New()
		converse(t, s, exchange{"day 3", "day 3", api.OK})
		var l []api.Event
		for _, e := range randomBeginning(r) {
			l = append(l, e)
			converse(t, s, exchange{lineOf(e), fmt.Sprint("event ", e.Number), api.OK})
		}
		day := 3
		for range 60 {
			day += r.Intn(2)
			converse(t, s, exchange{fmt.Sprint("day ", day), fmt.Sprint("day ", day), api.OK})
			e := event(len(l)+1, day, randomText(r))
			longer := append(slices.Clone(l), e)
			if _, _, refusal := run(longer); refusal != api.OK {
				converse(t, s, exchange{lineOf(e), "", refusal})
				continue
			}
			converse(t, s, exchange{lineOf(e), fmt.Sprint("event ", len(longer)), api.OK})
			l = longer
		}
		m, _, _ := run(l)
		converse(t, s, exchange{"report", strings.TrimSuffix(m.reportOf(), "\n"), api.OK})
		expect(t, textsOf(l), ok[string](t, "Report")(terminal.Report(l)), m.reportOf())
		expect(t, "the events", s.Events(), l)
	}
}

// lineOf returns the line of an event.
func lineOf(e api.Event) string {
	line := e.Kind + " " + strings.Join(e.Names, " ")
	for _, mass := range e.Masses {
		line += fmt.Sprint(" ", mass)
	}
	return line
}
