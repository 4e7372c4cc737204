package terminal_test

import (
	"fmt"
	"maps"
	"math/rand"
	"slices"
	"strings"
	"testing"

	"bushel/api"
	"bushel/bin"
	"bushel/terminal"
)

func TestTracesOfTheExamples(t *testing.T) {
	l := example(10)
	for _, x := range []struct {
		what string
		got  func() (any, api.Errno)
		want any
	}{
		{"Stock of wheat", func() (any, api.Errno) { return terminal.Stock(l, "wheat") }, 51},
		{"Stock of wheat before the shipment", func() (any, api.Errno) { return terminal.Stock(l[:8], "wheat") }, 60},
		{"Stock of another grain", func() (any, api.Errno) { return terminal.Stock(l, "rye") }, 0},
		{"Trace of oslo", func() (any, api.Errno) { return terminal.Trace(l, "oslo") }, []bin.Amount{{Lot: "blue", Mass: "6"}, {Lot: "red", Mass: "3"}}},
		{"Trace of oslo when it is empty", func() (any, api.Errno) { return terminal.Trace(l[:8], "oslo") }, []bin.Amount{}},
		{"Reach of red", func() (any, api.Errno) { return terminal.Reach(l, "red") }, []string{"oslo"}},
		{"Reach of blue", func() (any, api.Errno) { return terminal.Reach(l, "blue") }, []string{"oslo"}},
		{"Reach of red before the load", func() (any, api.Errno) { return terminal.Reach(l[:8], "red") }, []string{}},
		{"Recall of red", func() (any, api.Errno) { return terminal.Recall(l, []string{"red"}) }, []terminal.Hit{{Shipment: "oslo", Mass: "3"}}},
		{"Recall of both", func() (any, api.Errno) { return terminal.Recall(l, []string{"red", "blue"}) }, []terminal.Hit{{Shipment: "oslo", Mass: "9"}}},
		{"Recall before the load", func() (any, api.Errno) { return terminal.Recall(l[:8], []string{"red"}) }, []terminal.Hit{}},
		{"Journey of blue", func() (any, api.Errno) { return terminal.Journey(l, "blue") }, []int{4, 6, 7, 9}},
		{"Journey of red", func() (any, api.Errno) { return terminal.Journey(l, "red") }, []int{3, 5, 7, 9}},
		{"Journey of what waits", func() (any, api.Errno) { return terminal.Journey(l[:4], "blue") }, []int{4}},
		{"Balance", func() (any, api.Errno) { return terminal.Balance(l) }, []terminal.Line{
			{Lot: "blue", Arrived: "20", Waiting: "0", Stored: "14", Shipped: "6", Lost: "0"}, {Lot: "red", Arrived: "40", Waiting: "10", Stored: "27", Shipped: "3", Lost: "0"},
		}},
		{"Balance of nothing", func() (any, api.Errno) { return terminal.Balance(nil) }, []terminal.Line{}},
	} {
		got, e := x.got()
		expect(t, x.what, []any{got, e}, []any{x.want, api.OK})
	}
}

// TestTracesOfDriedGrain checks amounts that are no whole kilograms.
func TestTracesOfDriedGrain(t *testing.T) {
	l := then(example(7), "dry west east 1 0 36 30", "ship oslo wheat 50", "load oslo east 0 21", "blend riga mix 50", "load riga east 0 2", "close riga")
	_, place, e := terminal.Replay(l)
	expect(t, "Replay", []any{place, e}, []any{0, api.OK})
	// East had 14 of blue, and above them 30 of the mixture with 5/6 of red.
	expect(t, "Trace", ok[[]bin.Amount](t, "Trace")(terminal.Trace(l, "oslo")), []bin.Amount{{Lot: "blue", Mass: "91/6"}, {Lot: "red", Mass: "35/6"}})
	expect(t, "Recall of blue", ok[[]terminal.Hit](t, "Recall")(terminal.Recall(l, []string{"blue"})), []terminal.Hit{{Shipment: "oslo", Mass: "91/6"}, {Shipment: "riga", Mass: "1/3"}})
	expect(t, "Recall of both", ok[[]terminal.Hit](t, "Recall")(terminal.Recall(l, []string{"red", "blue"})), []terminal.Hit{{Shipment: "oslo", Mass: "21"}, {Shipment: "riga", Mass: "2"}})
	expect(t, "Balance", ok[[]terminal.Line](t, "Balance")(terminal.Balance(l)), []terminal.Line{
		{Lot: "blue", Arrived: "20", Waiting: "0", Stored: "7/2", Shipped: "31/2", Lost: "1"}, {Lot: "red", Arrived: "40", Waiting: "10", Stored: "35/2", Shipped: "15/2", Lost: "5"},
	})
	expect(t, "Journey", ok[[]int](t, "Journey")(terminal.Journey(l, "blue")), []int{4, 6, 7, 8, 10, 12})
	expect(t, "Stock", ok[int](t, "Stock")(terminal.Stock(l, "wheat")), 31)
}

// TestTracesAgainstTheModel checks all traces behind random stories.
func TestTracesAgainstTheModel(t *testing.T) {
	r := rand.New(rand.NewSource(12))
	for range 60 {
		l := randomEvents(r, 60)
		m, _, _ := run(l)
		what := textsOf(l)
		for _, grain := range []string{"wheat", "rye", "mix", "barley"} {
			expect(t, what+": stock", ok[int](t, "Stock")(terminal.Stock(l, grain)), m.stock(grain))
		}
		expect(t, what+": balance", ok[[]terminal.Line](t, "Balance")(terminal.Balance(l)), m.balance())
		for name, c := range m.cargoes {
			expect(t, what+": trace", ok[[]bin.Amount](t, "Trace")(terminal.Trace(l, name)), asAmounts(amounts(c.inside)))
		}
		all := slices.Sorted(maps.Keys(m.grains))
		for i, lot := range all {
			expect(t, what+": journey of "+lot, ok[[]int](t, "Journey")(terminal.Journey(l, lot)), m.journeys[lot])
			hits := m.recall(lot)
			expect(t, what+": recall of "+lot, ok[[]terminal.Hit](t, "Recall")(terminal.Recall(l, []string{lot})), hits)
			var names []string
			for _, hit := range hits {
				names = append(names, hit.Shipment)
			}
			expect(t, what+": reach of "+lot, ok[[]string](t, "Reach")(terminal.Reach(l, lot)), names)
			some := slices.Concat(all[i:], all[:i])[:1+r.Intn(len(all))]
			expect(t, what+": recall", ok[[]terminal.Hit](t, "Recall")(terminal.Recall(l, some)), m.recall(some...))
		}
	}
}

// balance returns the lines of the balance of the model.
func (m *model) balance() []terminal.Line {
	inSilos, inCargoes := lots{}, lots{}
	for _, s := range m.silos {
		for lot, mass := range amounts(s.inside()) {
			inSilos.add(lot, mass)
		}
	}
	for _, c := range m.cargoes {
		for lot, mass := range amounts(c.inside) {
			inCargoes.add(lot, mass)
		}
	}
	var l []terminal.Line
	for _, lot := range slices.Sorted(maps.Keys(m.grains)) {
		l = append(l, terminal.Line{
			Lot: lot, Arrived: api.Rat(fmt.Sprint(m.arrived[lot])), Waiting: api.Rat(fmt.Sprint(m.waiting[lot])),
			Stored: api.Rat(inSilos.of(lot).RatString()), Shipped: api.Rat(inCargoes.of(lot).RatString()), Lost: api.Rat(m.lost.of(lot).RatString()),
		})
	}
	return l
}

// recall returns the hits of a recall of the model.
func (m *model) recall(names ...string) []terminal.Hit {
	var l []terminal.Hit
	for _, name := range slices.Sorted(maps.Keys(m.cargoes)) {
		mass := whole(0)
		for _, lot := range names {
			mass.Add(mass, amounts(m.cargoes[name].inside).of(lot))
		}
		if mass.Sign() > 0 {
			l = append(l, terminal.Hit{Shipment: name, Mass: api.Rat(mass.RatString())})
		}
	}
	return l
}

// question is a function with events and names.
type question func(l []api.Event, names ...string) (any, api.Errno)

// questions has the functions with events, as far as they ask about them.
func questions() map[string]question {
	return map[string]question{
		"Replay": func(l []api.Event, names ...string) (any, api.Errno) {
			s, _, e := terminal.Replay(l)
			return s, e
		},
		"Stock":   func(l []api.Event, names ...string) (any, api.Errno) { return terminal.Stock(l, names[0]) },
		"Balance": func(l []api.Event, names ...string) (any, api.Errno) { return terminal.Balance(l) },
		"Trace":   func(l []api.Event, names ...string) (any, api.Errno) { return terminal.Trace(l, names[0]) },
		"Reach":   func(l []api.Event, names ...string) (any, api.Errno) { return terminal.Reach(l, names[0]) },
		"Recall":  func(l []api.Event, names ...string) (any, api.Errno) { return terminal.Recall(l, names) },
		"Journey": func(l []api.Event, names ...string) (any, api.Errno) { return terminal.Journey(l, names[0]) },
		"Report":  func(l []api.Event, names ...string) (any, api.Errno) { return terminal.Report(l) },
	}
}

// expectNothing reports a result beside an error that is not its zero value.
func expectNothing(t *testing.T, what string, got any) {
	t.Helper()
	zeros := map[string]bool{}
	for _, zero := range []any{"", 0, []string{}, []int{}, []bin.Amount{}, []terminal.Hit{}, []terminal.Line{}, terminal.State{}} {
		zeros[fmt.Sprintf("%T %s", zero, written(zero))] = true
	}
	if !zeros[fmt.Sprintf("%T %s", got, written(got))] {
		t.Errorf("%.600s: %v beside an error", what, got)
	}
}

func TestErrorsOfTraces(t *testing.T) {
	bad := []string{"", "a b", strings.Repeat("x", 25), "red\n", "r/d"}
	for name, ask := range questions() {
		expectQuestion := func(l []api.Event, want api.Errno, names ...string) {
			t.Helper()
			got, e := ask(l, names...)
			what := fmt.Sprintf("%s of %q", name, names)
			expect(t, what, e, want)
			if e != api.OK {
				expectNothing(t, what, got)
			}
		}
		for _, text := range append(bad, "red", "oslo") {
			expectQuestion(make([]api.Event, 1001), api.ErrMany, text)
			expectQuestion(append(example(10), api.Event{}, api.Event{}), api.ErrRange, text)
			expectQuestion(then(example(10), "close riga", "close oslo"), api.ErrUnknown, text)
		}
		for _, text := range bad {
			want := map[string]api.Errno{"Stock": api.ErrName, "Trace": api.ErrName, "Reach": api.ErrName, "Recall": api.ErrName, "Journey": api.ErrName}[name]
			expectQuestion(example(10), want, text)
			expectQuestion(nil, want, text)
		}
		for _, text := range []string{"pink", "east", "ann", "wheat"} {
			want := map[string]api.Errno{"Trace": api.ErrUnknown, "Reach": api.ErrUnknown, "Recall": api.ErrUnknown, "Journey": api.ErrUnknown}[name]
			expectQuestion(example(10), want, text)
			expectQuestion(nil, want, text)
		}
	}
	_, e := terminal.Trace(example(10), "red")
	expect(t, "Trace of a lot", e, api.ErrUnknown)
	_, e = terminal.Reach(example(10), "oslo")
	expect(t, "Reach of a shipment", e, api.ErrUnknown)
	_, e = terminal.Journey(example(3), "blue")
	expect(t, "Journey of a lot that has not arrived", e, api.ErrUnknown)
}

func TestErrorsOfRecalls(t *testing.T) {
	l := example(10)
	var many []string
	for i := range 65 {
		many = append(many, fmt.Sprint("l", i))
		l = then(l, fmt.Sprint("arrive l", i, " wheat 1"))
	}
	for _, x := range []struct {
		what string
		lots []string
		e    api.Errno
	}{
		{"no lots", nil, api.ErrShape},
		{"65 lots", many, api.ErrMany},
		{"65 texts", make([]string, 65), api.ErrMany},
		{"64 lots", many[:64], api.OK},
		{"a bad name behind one that is not there", []string{"pink", ""}, api.ErrUnknown},
		{"a bad name in front of one that is not there", []string{"", "pink"}, api.ErrName},
		{"a bad name twice", []string{"red", "", ""}, api.ErrName},
		{"a name twice that is not there", []string{"red", "pink", "pink"}, api.ErrUnknown},
		{"a lot twice", []string{"red", "blue", "red", "pink"}, api.ErrTwice},
		{"a lot twice behind a bad name", []string{"red", "r d", "red"}, api.ErrName},
		{"a lot twice in a row", []string{"red", "red"}, api.ErrTwice},
		{"a lot of another case", []string{"red", "Red"}, api.ErrUnknown},
		{"two lots", []string{"red", "blue"}, api.OK},
	} {
		hits, e := terminal.Recall(l, x.lots)
		expect(t, x.what, e, x.e)
		if e != api.OK {
			expectNothing(t, x.what, hits)
		}
	}
}
