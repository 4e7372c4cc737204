package terminal_test

import (
	"fmt"
	"math"
	"math/rand"
	"slices"
	"strings"
	"testing"

	"bushel/api"
	"bushel/bin"
	"bushel/terminal"
)

// badEvent is a change of an event that causes an error.
type badEvent struct {
	what   string
	e      api.Errno
	change func(e *api.Event)
}

// badEvents are the errors of CheckEvent, in their order.
func badEvents() []badEvent {
	number := func(n int) func(e *api.Event) { return func(e *api.Event) { e.Number = n } }
	day := func(n int) func(e *api.Event) { return func(e *api.Event) { e.Day = n } }
	kind := func(s string) func(e *api.Event) { return func(e *api.Event) { e.Kind = s } }
	name := func(s string) func(e *api.Event) {
		return func(e *api.Event) { e.Names = append(slices.Clone(e.Names[:1]), s) }
	}
	mass := func(n int) func(e *api.Event) { return func(e *api.Event) { e.Masses = []int{0, n} } }
	return []badEvent{
		{"the number 0", api.ErrRange, number(0)},
		{"a negative number", api.ErrRange, number(-1)},
		{"the number 1001", api.ErrRange, number(1001)},
		{"the least number", api.ErrRange, number(math.MinInt)},
		{"a negative day", api.ErrDay, day(-1)},
		{"a day behind the last one", api.ErrDay, day(100001)},
		{"the greatest day", api.ErrDay, day(math.MaxInt)},
		{"no kind", api.ErrKind, kind("")},
		{"another kind", api.ErrKind, kind("Store")},
		{"a command", api.ErrKind, kind("stock")},
		{"a kind and more", api.ErrKind, kind("store ")},
		{"no names", api.ErrShape, func(e *api.Event) { e.Names = nil }},
		{"a name too few", api.ErrShape, func(e *api.Event) { e.Names = []string{""} }},
		{"a name too many", api.ErrShape, func(e *api.Event) { e.Names = []string{"", "", ""} }},
		{"no masses", api.ErrShape, func(e *api.Event) { e.Names, e.Masses = []string{"", ""}, nil }},
		{"a mass too few", api.ErrShape, func(e *api.Event) { e.Names, e.Masses = []string{"", ""}, []int{-1} }},
		{"a mass too many", api.ErrShape, func(e *api.Event) { e.Names, e.Masses = []string{"", ""}, []int{-1, 0, 0} }},
		{"no first name", api.ErrName, func(e *api.Event) { e.Names, e.Masses = []string{"", "east"}, []int{-1, 0} }},
		{"a second name with a blank", api.ErrName, func(e *api.Event) { e.Names, e.Masses = []string{"red", "ea st"}, []int{-1, 0} }},
		{"a second name with 25 bytes", api.ErrName, name(strings.Repeat("x", 25))},
		{"a second name with a line feed", api.ErrName, name("east\n")},
		{"a negative first mass", api.ErrRange, func(e *api.Event) { e.Names, e.Masses = []string{"red", "east"}, []int{-1, 0} }},
		{"a negative second mass", api.ErrRange, mass(-1)},
		{"a mass that is too great", api.ErrRange, mass(1000000000)},
		{"the least mass", api.ErrRange, mass(math.MinInt)},
	}
}

// stored is an event without an error.
func stored() api.Event { return event(5, 3, "store red east 0 30") }

func TestCheckEvent(t *testing.T) {
	expect(t, "CheckEvent", terminal.CheckEvent(stored()), api.OK)
	for i, bad := range badEvents() {
		e := stored()
		bad.change(&e)
		expect(t, bad.what, terminal.CheckEvent(e), bad.e)
		for _, later := range slices.Backward(badEvents()[i:]) {
			later.change(&e)
		}
		expect(t, bad.what+" and more", terminal.CheckEvent(e), bad.e)
	}
}

func TestCheckEventOfAllKinds(t *testing.T) {
	for kind, shape := range shapes() {
		for names := range 5 {
			for masses := range 6 {
				e := api.Event{Number: 1000, Day: 100000, Kind: kind, Names: slices.Repeat([]string{"A.z-9_"}, names), Masses: slices.Repeat([]int{api.MaxMass}, masses)}
				want := api.ErrShape
				if shape == [2]int{names, masses} {
					want = api.OK
				}
				expect(t, fmt.Sprint(kind, " with ", names, " names and ", masses, " masses"), terminal.CheckEvent(e), want)
			}
		}
		e := api.Event{Number: 1, Kind: kind, Names: slices.Repeat([]string{strings.Repeat("x", 24)}, shape[0]), Masses: make([]int, shape[1])}
		expect(t, kind+" with least numbers", terminal.CheckEvent(e), api.OK)
		for i := range e.Names {
			bad := copyOf([]api.Event{e})[0]
			bad.Names[i] = "ä"
			expect(t, kind+" with a bad name", terminal.CheckEvent(bad), api.ErrName)
		}
		for i := range e.Masses {
			bad := copyOf([]api.Event{e})[0]
			bad.Masses[i] = -1
			expect(t, kind+" with a bad mass", terminal.CheckEvent(bad), api.ErrRange)
		}
	}
}

// layer returns a layer of wheat of one lot.
func layer(lot string, mass int) api.Layer {
	return api.Layer{Grain: "wheat", Mass: mass, Shares: []api.Share{{Lot: lot, Part: "1"}}}
}

func TestReplayOfTheExamples(t *testing.T) {
	got, place, e := terminal.Replay(example(10))
	expect(t, "the example", []any{place, e}, []any{0, api.OK})
	expect(t, "its state", got, terminal.State{
		Day: 3,
		Bins: []terminal.Stored{
			{Name: "east", Bin: api.Bin{Flow: "mass", Room: 100, Side: 50, Cells: [][]api.Layer{{layer("blue", 14)}}}},
			{Name: "west", Bin: api.Bin{Flow: "funnel", Core: 4, Room: 100, Side: 60, Cells: [][]api.Layer{nil, {layer("red", 27)}}}},
		},
		Lots:      []terminal.Lot{{Name: "blue", Grain: "wheat", Arrived: 20}, {Name: "red", Grain: "wheat", Arrived: 40, Waiting: 10}},
		Shipments: []terminal.Shipment{{Name: "oslo", Grain: "wheat", Limit: 90, Layers: []api.Layer{layer("blue", 6), layer("red", 3)}}},
		Receipts:  []terminal.Receipt{{Holder: "ann", Grain: "wheat", Mass: 50}},
	})
	got, _, _ = terminal.Replay(example(7))
	expect(t, "the cell behind the event 7", got.Bins[1].Bin.Cells[1], []api.Layer{layer("red", 30), layer("blue", 6)})
	got, _, e = terminal.Replay(then(example(10), "dry west east 1 0 20 19"))
	expect(t, "the dried grain", e, api.OK)
	expect(t, "east", got.Bins[0].Bin.Cells, [][]api.Layer{{layer("blue", 14), layer("red", 19)}})
	expect(t, "lost", got.Lost, []bin.Amount{{Lot: "red", Mass: "1"}})
	got, place, e = terminal.Replay(nil)
	expect(t, "no events", []any{got, place, e}, []any{terminal.State{}, 0, api.OK})
}

func TestReplayOfBadEvents(t *testing.T) {
	for _, x := range []struct {
		what  string
		l     []api.Event
		place int
		e     api.Errno
	}{
		{"1001 events", make([]api.Event, 1001), 0, api.ErrMany},
		{"a first event with the number 2", []api.Event{event(2, 3, "arrive red wheat 1")}, 1, api.ErrOrder},
		{"a number twice", append(example(4), event(4, 0, "arrive red wheat 1")), 5, api.ErrOrder},
		{"a number left out", append(example(4), event(6, 0, "arrive red wheat 1")), 5, api.ErrOrder},
		{"an earlier day", append(example(4), event(5, 2, "arrive red wheat 1")), 5, api.ErrDay},
		{"an error behind a refusal", append(then(example(4), "arrive red wheat 1"), api.Event{}), 5, api.ErrTwice},
		{"a refusal behind an error", append(example(4), api.Event{}, event(5, 3, "arrive red wheat 1")), 5, api.ErrRange},
		{"a bad event with a wrong number", append(example(4), event(7, 2, "arrive b/lue wheat 1")), 5, api.ErrName},
		{"a refusal in the example", then(example(9), "issue ann wheat 52", "close oslo"), 10, api.ErrBalance},
	} {
		s, place, e := terminal.Replay(x.l)
		expect(t, x.what, []any{place, e}, []any{x.place, x.e})
		expect(t, x.what+": state", s, terminal.State{})
	}
}

func TestAcceptsInOrder(t *testing.T) {
	full := make([]api.Event, 1000)
	for i := range full {
		full[i] = event(i+1, 3, fmt.Sprint("arrive l", i, " wheat 1"))
	}
	bad := api.Event{Number: 11, Day: 3, Kind: "heap"}
	for _, x := range []struct {
		what string
		l    []api.Event
		x    api.Event
		e    api.Errno
	}{
		{"events with a refusal", then(example(9), "issue ann wheat 52"), bad, api.ErrBalance},
		{"too many events", append(full[:1000:1000], api.Event{}), bad, api.ErrMany},
		{"an error", example(10), bad, api.ErrKind},
		{"an error behind 1000 events", full, bad, api.ErrKind},
		{"the event 1001", full, event(1001, 3, "arrive red wheat 1"), api.ErrRange},
		{"1000 events", full, event(1000, 2, "arrive l1 wheat 1"), api.ErrMany},
		{"999 events", full[:999], full[999], api.OK},
		{"a wrong number", example(10), event(10, 2, "arrive red wheat 0"), api.ErrOrder},
		{"an earlier day", example(10), event(11, 2, "arrive red wheat 0"), api.ErrDay},
		{"a lot twice", example(10), event(11, 3, "arrive red wheat 0"), api.ErrTwice},
		{"a later day", example(10), event(11, 4, "arrive green wheat 1"), api.OK},
		{"the last day", example(10), event(11, 100000, "arrive green wheat 1"), api.OK},
	} {
		expect(t, x.what, terminal.Accepts(x.l, x.x), x.e)
	}
	_, place, e := terminal.Replay(full)
	expect(t, "Replay of 1000 events", []any{place, e}, []any{0, api.OK})
}

// refusal is an event that is refused behind others, or accepted.
type refusal struct {
	text string
	e    api.Errno
}

// expectRefusals checks which events are refused behind others, by Accepts, by Replay and by the model.
func expectRefusals(t *testing.T, l []api.Event, refusals ...refusal) {
	t.Helper()
	_, place, e := terminal.Replay(l)
	expect(t, textsOf(l), []any{place, e}, []any{0, api.OK})
	for _, x := range refusals {
		longer := then(l, x.text)
		expect(t, x.text, terminal.Accepts(l, longer[len(l)]), x.e)
		_, place, e := terminal.Replay(longer)
		want := 0
		if x.e != api.OK {
			want = len(longer)
		}
		expect(t, "Replay with "+x.text, []any{place, e}, []any{want, x.e})
	}
}

func TestRefusalsOfBins(t *testing.T) {
	expectRefusals(t, example(1),
		refusal{"bin east tower 9 5 0 0", api.ErrTwice},
		refusal{"bin west tower 9 5 0 0", api.ErrMany},
		refusal{"bin west tower 0 5 0 0", api.ErrKind},
		refusal{"bin west mass 0 1 10 5", api.ErrRange},
		refusal{"bin west funnel 0 1 10 5", api.ErrRange},
		refusal{"bin west mass 0 0 0 5", api.ErrRange},
		refusal{"bin west mass 0 0 10 5", api.ErrShape},
		refusal{"bin west mass 8 0 1 0", api.OK},
		refusal{"bin east2 funnel 1 2 999999999 999999999", api.OK},
		refusal{"bin West funnel 1 999999999 1 0", api.OK},
	)
	l := example(1)
	for i := range 31 {
		expectRefusals(t, l, refusal{"bin west mass 1 0 10 5", api.OK})
		l = then(l, fmt.Sprint("bin b", i, " mass 1 0 10 5"))
	}
	expectRefusals(t, l,
		refusal{"bin b1 mass 1 0 10 5", api.ErrTwice},
		refusal{"bin west mass 1 0 10 5", api.ErrMany},
		refusal{"bin west tower 0 1 0 0", api.ErrMany},
	)
}

func TestRefusalsOfLots(t *testing.T) {
	expectRefusals(t, then(example(4), "arrive green rye 5", "store green east 0 3"),
		refusal{"arrive red rye 0", api.ErrTwice},
		refusal{"arrive pink rye 0", api.ErrRange},
		refusal{"arrive pink rye 999999999", api.OK},
		refusal{"arrive east ann 1", api.OK},
		refusal{"store pink east 9 0", api.ErrUnknown},
		refusal{"store red north 9 0", api.ErrUnknown},
		refusal{"store oslo oslo 9 0", api.ErrUnknown},
		refusal{"store red east 9 0", api.ErrRange},
		refusal{"store red east 9 41", api.ErrEmpty},
		refusal{"store red east 1 40", api.ErrUnknown},
		refusal{"store red east 0 40", api.ErrGrain},
		refusal{"store green east 0 3", api.ErrEmpty},
		refusal{"store green east 0 2", api.OK},
		refusal{"store red west 1 40", api.OK},
	)
	tight := then(nil, "bin tight funnel 2 3 20 10", "arrive red wheat 40", "arrive green rye 40", "store red tight 0 5")
	expectRefusals(t, tight,
		refusal{"store green tight 0 16", api.ErrGrain},
		refusal{"store red tight 0 16", api.ErrFull},
		refusal{"store red tight 0 15", api.ErrSafe},
		refusal{"store red tight 0 6", api.ErrSafe},
		refusal{"store red tight 0 5", api.OK},
		refusal{"store green tight 1 15", api.OK},
		refusal{"store green tight 1 16", api.ErrSafe},
	)
}

func TestRefusalsOfMoves(t *testing.T) {
	l := then(example(7), "arrive green rye 30", "bin north mass 2 0 40 20", "store green north 0 8", "store red north 1 5")
	for _, x := range []string{"move %s %s %s 5", "dry %s %s %s 5 4"} {
		text := func(from, to, cells string) string { return fmt.Sprintf(x, from, to, cells) }
		expectRefusals(t, l,
			refusal{text("south", "south", "9 9"), api.ErrUnknown},
			refusal{text("east", "south", "9 9"), api.ErrUnknown},
			refusal{text("south", "east", "9 9"), api.ErrUnknown},
			refusal{strings.Replace(text("east", "east", "9 9"), " 5", " 0", 1), api.ErrRange},
			refusal{strings.Replace(text("south", "east", "9 9"), " 5", " 0", 1), api.ErrUnknown},
			refusal{text("east", "east", "9 9"), api.ErrTwice},
			refusal{text("east", "east", "0 0"), api.ErrTwice},
			refusal{text("east", "east", "1 0"), api.ErrUnknown},
			refusal{text("east", "east", "0 1"), api.ErrUnknown},
			refusal{text("east", "north", "0 0"), api.ErrGrain},
			refusal{text("east", "north", "0 1"), api.OK},
			refusal{text("west", "west", "1 0"), api.OK},
			refusal{text("west", "east", "0 9"), api.ErrEmpty},
		)
	}
	expectRefusals(t, l,
		refusal{"move east north 0 9 15", api.ErrEmpty},
		refusal{"dry east north 0 9 15 0", api.ErrEmpty},
		refusal{"dry east north 0 9 14 0", api.ErrRange},
		refusal{"dry east north 0 9 14 15", api.ErrEmpty},
		refusal{"dry east north 0 9 14 14", api.ErrUnknown},
		refusal{"dry east north 0 1 14 14", api.OK},
		refusal{"dry east north 0 0 14 13", api.ErrGrain},
		refusal{"move west north 1 0 36", api.ErrGrain},
		refusal{"move west north 1 1 36", api.ErrFull},
		refusal{"dry west north 1 1 36 35", api.ErrSafe},
		refusal{"move west north 1 1 24", api.ErrSafe},
		refusal{"move west north 1 1 23", api.OK},
		refusal{"dry west north 1 1 36 23", api.OK},
	)
}

// TestMovesWithinABin checks that what was drawn is no longer there when it is filled into the same bin.
func TestMovesWithinABin(t *testing.T) {
	l := then(nil, "bin east mass 3 0 9 3", "arrive red wheat 40")
	for _, x := range []string{"0 3", "1 3", "2 3", "0 2", "1 2", "2 2"} {
		l = then(l, "store red east "+x)
	}
	expectRefusals(t, l,
		refusal{"move east east 0 1 4", api.ErrSafe},
		refusal{"move east east 0 1 3", api.ErrSafe},
		refusal{"move east east 0 1 2", api.ErrSafe},
		refusal{"move east east 0 1 1", api.OK},
		refusal{"move east east 0 2 3", api.OK},
		refusal{"move east east 1 0 1", api.OK},
		refusal{"move east east 1 0 2", api.ErrSafe},
		refusal{"dry east east 1 0 2 1", api.OK},
	)
	s, _, e := terminal.Replay(then(l, "move east east 0 1 1", "dry east east 1 2 2 1"))
	expect(t, "moves within a bin", e, api.OK)
	expect(t, "the cells", s.Bins[0].Bin.Cells, [][]api.Layer{{layer("red", 4)}, {layer("red", 4)}, {layer("red", 6)}})
}

func TestRefusalsOfShipments(t *testing.T) {
	l := then(example(10), "arrive green rye 30", "store green west 0 9", "ship riga wheat 20", "load riga east 0 1", "close riga", "blend turku mix 8")
	expectRefusals(t, l,
		refusal{"ship oslo rye 0", api.ErrTwice},
		refusal{"blend riga rye 0", api.ErrTwice},
		refusal{"ship turku rye 0", api.ErrTwice},
		refusal{"ship east rye 0", api.ErrRange},
		refusal{"blend east rye 0", api.ErrRange},
		refusal{"blend east rye 1", api.OK},
		refusal{"ship red ann 999999999", api.OK},
		refusal{"load north east 9 0", api.ErrUnknown},
		refusal{"load oslo north 9 0", api.ErrUnknown},
		refusal{"load riga north 9 0", api.ErrUnknown},
		refusal{"load riga east 9 0", api.ErrState},
		refusal{"load oslo east 9 0", api.ErrRange},
		refusal{"load oslo east 9 99", api.ErrUnknown},
		refusal{"load oslo west 0 10", api.ErrEmpty},
		refusal{"load oslo west 0 9", api.ErrGrain},
		refusal{"load turku west 0 9", api.ErrFull},
		refusal{"load turku west 0 8", api.OK},
		refusal{"load turku west 1 8", api.ErrBalance},
		refusal{"load turku west 1 9", api.ErrFull},
		refusal{"load oslo east 0 1", api.ErrBalance},
		refusal{"close north", api.ErrUnknown},
		refusal{"close riga", api.ErrState},
		refusal{"close oslo", api.OK},
		refusal{"close turku", api.OK},
	)
	expectRefusals(t, then(nil, "bin east mass 2 0 50 10", "arrive red wheat 40", "store red east 0 10", "store red east 1 20", "store red east 0 10", "arrive green rye 9", "ship oslo rye 15"),
		refusal{"load oslo east 1 15", api.ErrSafe},
		refusal{"load oslo east 1 10", api.ErrGrain},
	)
	expectRefusals(t, then(example(7), "ship oslo rye 5"), refusal{"load oslo east 0 14", api.ErrGrain})
}

func TestRefusalsOfReceipts(t *testing.T) {
	l := then(example(9), "issue ann wheat 20", "issue ann rye2 5")
	expect(t, "receipts for nothing", terminal.Accepts(l, event(12, 3, "close oslo")), api.ErrBalance)
	l = then(example(9), "issue ann wheat 20", "issue bob wheat 10")
	expectRefusals(t, l,
		refusal{"issue ann rye 0", api.ErrRange},
		refusal{"issue ann rye 1", api.ErrBalance},
		refusal{"issue ann wheat 22", api.ErrBalance},
		refusal{"issue ann wheat 21", api.OK},
		refusal{"issue zoe wheat 999999999", api.ErrBalance},
		refusal{"cancel zoe wheat 0", api.ErrRange},
		refusal{"cancel zoe wheat 1", api.ErrEmpty},
		refusal{"cancel ann rye 1", api.ErrEmpty},
		refusal{"cancel ann wheat 21", api.ErrEmpty},
		refusal{"cancel bob wheat 11", api.ErrEmpty},
		refusal{"cancel ann wheat 20", api.OK},
	)
	l = then(l, "arrive rye1 rye 5", "issue b rye 5", "issue ann wheat 1", "cancel bob wheat 10", "issue ann rye 0")
	expect(t, "no mass", terminal.Accepts(l[:15], l[15]), api.ErrRange)
	l = then(l[:15], "cancel b rye 2", "issue ann rye 1", "issue ann-b rye 1")
	s, _, _ := terminal.Replay(l)
	expect(t, "receipts", s.Receipts, []terminal.Receipt{
		{Holder: "ann", Grain: "rye", Mass: 1}, {Holder: "ann", Grain: "wheat", Mass: 21}, {Holder: "ann-b", Grain: "rye", Mass: 1}, {Holder: "b", Grain: "rye", Mass: 3},
	})
}

// TestReceiptsOfMuchGrain checks receipts and stocks beyond the greatest mass.
func TestReceiptsOfMuchGrain(t *testing.T) {
	l := then(nil, "arrive red wheat 999999999", "arrive blue wheat 999999999", "issue ann wheat 999999999", "issue ann wheat 999999998")
	expectRefusals(t, l, refusal{"issue bob wheat 2", api.ErrBalance}, refusal{"issue bob wheat 1", api.OK})
	s, _, _ := terminal.Replay(l)
	expect(t, "receipts", s.Receipts, []terminal.Receipt{{Holder: "ann", Grain: "wheat", Mass: 1999999997}})
	expect(t, "stock", ok[int](t, "Stock")(terminal.Stock(l, "wheat")), 1999999998)
}

func TestRefusalsOfDrying(t *testing.T) {
	l := then(example(10), "issue ann wheat 1")
	expectRefusals(t, l,
		refusal{"dry west east 1 0 20 19", api.ErrBalance},
		refusal{"dry west east 1 0 20 20", api.OK},
		refusal{"move west east 1 0 20", api.OK},
		refusal{"dry west east 1 9 20 19", api.ErrUnknown},
	)
	expectRefusals(t, then(l, "cancel ann wheat 1"), refusal{"dry west east 1 0 20 19", api.OK}, refusal{"dry west east 1 0 20 18", api.ErrBalance})
	// Receipts for another grain have nothing to do with it.
	expectRefusals(t, then(example(9), "arrive green rye 7", "issue ann rye 7"), refusal{"dry west east 1 0 20 1", api.OK})
}

// TestAgainstTheModel checks all events of random stories, and the states behind them.
func TestAgainstTheModel(t *testing.T) {
	r := rand.New(rand.NewSource(11))
	codes := map[string]map[api.Errno]int{}
	for range 100 {
		l := randomStory(r, 100, func(l []api.Event, e api.Event, want api.Errno) {
			expect(t, textsOf(append(slices.Clone(l), e)), terminal.Accepts(l, e), want)
			if codes[e.Kind] == nil {
				codes[e.Kind] = map[api.Errno]int{}
			}
			codes[e.Kind][want]++
		})
		m, _, _ := run(l)
		s, place, e := terminal.Replay(l)
		expect(t, textsOf(l), []any{place, e}, []any{0, api.OK})
		expectState(t, textsOf(l), s, m)
	}
	for kind, want := range map[string][]api.Errno{
		"bin": {api.OK, api.ErrTwice}, "arrive": {api.OK, api.ErrTwice, api.ErrRange},
		"store": {api.OK, api.ErrUnknown, api.ErrRange, api.ErrEmpty, api.ErrGrain, api.ErrFull, api.ErrSafe},
		"move":  {api.OK, api.ErrUnknown, api.ErrRange, api.ErrTwice, api.ErrEmpty, api.ErrGrain, api.ErrSafe},
		"dry":   {api.OK, api.ErrUnknown, api.ErrRange, api.ErrTwice, api.ErrEmpty, api.ErrBalance},
		"load":  {api.OK, api.ErrUnknown, api.ErrState, api.ErrRange, api.ErrEmpty, api.ErrGrain, api.ErrFull, api.ErrBalance},
		"issue": {api.OK, api.ErrRange, api.ErrBalance}, "cancel": {api.OK, api.ErrRange, api.ErrEmpty},
		"close": {api.OK, api.ErrUnknown, api.ErrState}, "ship": {api.OK, api.ErrTwice, api.ErrRange}, "blend": {api.OK, api.ErrTwice, api.ErrRange},
	} {
		for _, e := range want {
			if codes[kind][e] == 0 {
				t.Errorf("no %s had the error %d: %v", kind, e, codes[kind])
			}
		}
	}
}
