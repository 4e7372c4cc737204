package load_test

import (
	"fmt"
	"math/rand"
	"slices"
	"testing"

	"bushel/api"
	"bushel/load"
)

// P8.3: pours, and loadings that are safe.

func TestErrorsOfPours(t *testing.T) {
	unsafe := fault{"an order that is not safe", api.ErrSafe, func(a *args) { a.pours = pours(20, 0, 0, 1, 1) }}
	expectErrors(t, "Run", append(append(shipFaults(), poursFaults()...), unsafe)...)
	cargo := slices.Concat(shipFaults(), massesFaults(), passesFaults())
	expectErrors(t, "CheckSequence", append(append(cargo, poursFaults()...),
		fault{"pours that are missing", api.ErrProof, func(a *args) { a.pours = pours(20, 0, 0, 1) }}, unsafe)...)
	expectErrors(t, "Sequence", append(cargo,
		fault{"an unsafe ship", api.ErrNone, func(a *args) { a.ship.Trim = "3" }})...)
}

func TestExamplesOfPours(t *testing.T) {
	s := exampleShip()
	expectTracks(t, "Run", ok[[][]int](t, "Run")(load.Run(s, pours(20, 0, 1, 0, 1))), [][]int{{20, 0}, {20, 20}, {40, 20}, {40, 40}})
	_, e := load.Run(s, pours(20, 0, 0, 1, 1))
	expect(t, "Run of 0, 0, 1, 1", e, api.ErrSafe)
	l := ok[[]api.Pour](t, "Sequence")(load.Sequence(s, []int{40, 40}, 2))
	expect(t, "Sequence is a loading", isLoading([]int{40, 40}, 2, l), true)
	expect(t, "Sequence is safe", areSafe(s, l), true)
	expect(t, "CheckSequence of 0, 1, 0, 1", load.CheckSequence(s, []int{40, 40}, 2, pours(20, 0, 1, 0, 1)), api.OK)
	expect(t, "CheckSequence of 0, 0, 1, 1", load.CheckSequence(s, []int{40, 40}, 2, pours(20, 0, 0, 1, 1)), api.ErrSafe)
	_, e = load.Sequence(s, []int{40, 40}, 1)
	expect(t, "Sequence in one pass", e, api.ErrNone)
}

func TestNoPours(t *testing.T) {
	s := exampleShip()
	expectTracks(t, "Run of no pours", ok[[][]int](t, "Run")(load.Run(s, nil)), nil)
	expectList(t, "Sequence of nothing", ok[[]api.Pour](t, "Sequence")(load.Sequence(s, []int{0, 0}, 3)), nil)
	expect(t, "CheckSequence of nothing", load.CheckSequence(s, []int{0, 0}, 3, nil), api.OK)
	// A ship may be unsafe when it is empty.
	s.Weight[0] = 40
	s.Trim = "1"
	expectError(t, "Run of no pours, unsafe", "Run", args{ship: s}, api.ErrSafe)
	expectError(t, "Sequence of nothing, unsafe", "Sequence", args{ship: s, masses: []int{0, 0}, passes: 1}, api.ErrNone)
	expect(t, "CheckSequence of nothing, unsafe", load.CheckSequence(s, []int{0, 0}, 1, nil), api.ErrSafe)
	// Though it is safe with 40 in the second hold, it cannot be loaded.
	expect(t, "Safe with a cargo", ok[bool](t, "Safe")(load.Safe(s, []int{0, 40})), true)
	expectError(t, "Run from unsafe to safe", "Run", args{ship: s, pours: pours(40, 1)}, api.ErrSafe)
	expectError(t, "Sequence from unsafe to safe", "Sequence", args{ship: s, masses: []int{0, 40}, passes: 1}, api.ErrNone)
	expect(t, "CheckSequence from unsafe to safe", load.CheckSequence(s, []int{0, 40}, 1, pours(40, 1)), api.ErrSafe)
}

// wideShip returns a ship with so many holds of one station, whose limits are never reached.
func wideShip(holds int) api.Ship {
	s := api.Ship{Trim: nines(9)}
	for k := range holds {
		s.Holds = append(s.Holds, hold(k, k+1, api.MaxMass))
		s.Weight, s.Carry = append(s.Weight, 1000), append(s.Carry, "1")
		s.Shear, s.Bending = append(s.Shear, api.MaxMass), append(s.Bending, api.MaxMass)
	}
	return s
}

func TestRunOfGreatMasses(t *testing.T) {
	s := wideShip(1)
	all := make([]int, api.MaxPours)
	cargoes := ok[[][]int](t, "Run of 32 pours")(load.Run(s, pours(31250000-1, all...)))
	expect(t, "the last cargo", cargoes[31], []int{999999968})
	expectError(t, "more than MaxMass", "Run", args{ship: s, pours: pours(31250000, all...)}, api.ErrSafe)
	expectError(t, "far more than MaxMass", "Run", args{ship: s, pours: pours(api.MaxMass, all...)}, api.ErrSafe)
	great := greatShip()
	great.Trim = nines(600)
	_, e := load.Run(great, pours(api.MaxMass, 0))
	expect(t, "the greatest ship", e, map[bool]api.Errno{true: api.OK, false: api.ErrSafe}[isSafe(great, append([]int{api.MaxMass}, make([]int, 11)...))])
}

func TestRunByDefinition(t *testing.T) {
	r := rand.New(rand.NewSource(5))
	codes := map[api.Errno]int{}
	for range 500 {
		s, _ := easyShip(r, 6, 3)
		if len(s.Holds) == 0 {
			continue
		}
		var l []api.Pour
		for range r.Intn(6) {
			l = append(l, api.Pour{Hold: r.Intn(len(s.Holds)), Mass: 1 + r.Intn(12)})
		}
		got, e := load.Run(s, l)
		codes[e]++
		if !areSafe(s, l) {
			expectError(t, fmt.Sprint("Run ", s, l), "Run", args{ship: s, pours: l}, api.ErrSafe)
			continue
		}
		expect(t, fmt.Sprint("the error of Run ", s, l), e, api.OK)
		expectTracks(t, fmt.Sprint("Run ", s, l), got, cargoesOf(s, l)[1:])
	}
	if codes[api.OK] < 50 || codes[api.ErrSafe] < 50 {
		t.Errorf("the errors are %v", codes)
	}
}

// TestSequences compares Sequence and CheckSequence with all loadings.
func TestSequences(t *testing.T) {
	r := rand.New(rand.NewSource(6))
	codes, checks := map[api.Errno]int{}, map[api.Errno]int{}
	for range 1500 {
		s, masses := easyShip(r, 6, 2)
		passes := 1 + r.Intn(4)
		var parts [][]int
		count := 0
		for i := range masses {
			masses[i] /= 1 + r.Intn(6)
			parts = append(parts, partsOf(masses[i], passes))
			count += len(parts[i])
		}
		if len(s.Holds) == 0 || count > 7 {
			continue
		}
		what := fmt.Sprint(s, masses, passes)
		exists := false
		for _, l := range loadings(parts) {
			want := api.ErrSafe
			if areSafe(s, l) {
				exists, want = true, api.OK
			}
			expect(t, fmt.Sprint("CheckSequence ", what, l), load.CheckSequence(s, masses, passes, l), want)
			checks[want]++
		}
		l, e := load.Sequence(s, masses, passes)
		codes[e]++
		if !exists {
			expectError(t, "Sequence "+what, "Sequence", args{ship: s, masses: masses, passes: passes}, api.ErrNone)
			continue
		}
		expect(t, "the error of Sequence "+what, e, api.OK)
		expect(t, "Sequence is a loading "+what, isLoading(masses, passes, l), true)
		expect(t, "Sequence is safe "+what, areSafe(s, l), true)
	}
	if codes[api.OK] < 50 || codes[api.ErrNone] < 50 || checks[api.OK] < 500 || checks[api.ErrSafe] < 500 {
		t.Errorf("the errors are %v and %v", codes, checks)
	}
}

// TestFewOrders checks a ship in which few orders of pours are safe.
func TestFewOrders(t *testing.T) {
	s := exampleShip()
	s.Trim = "2"
	// Each pour of 10 changes the trim by 2, so that the ship must be even behind every second one.
	masses := []int{40, 40}
	safe := 0
	for _, l := range loadings([][]int{partsOf(40, 4), partsOf(40, 4)}) {
		if e := load.CheckSequence(s, masses, 4, l); e == api.OK {
			safe++
		}
	}
	expect(t, "the number of orders", safe, 16)
	l := ok[[]api.Pour](t, "Sequence")(load.Sequence(s, masses, 4))
	expect(t, "Sequence is a loading", isLoading(masses, 4, l), true)
	expect(t, "Sequence is safe", areSafe(s, l), true)
	s.Trim = "199/100"
	expectError(t, "a lesser trim", "Sequence", args{ship: s, masses: masses, passes: 4}, api.ErrNone)
}

// pairs returns pours, as holds and masses one after another.
func pairs(l ...int) []api.Pour {
	var pours []api.Pour
	for pair := range slices.Chunk(l, 2) {
		pours = append(pours, api.Pour{Hold: pair[0], Mass: pair[1]})
	}
	return pours
}

func TestParts(t *testing.T) {
	s := exampleShip()
	s.Trim = "99"
	masses := []int{11, 2}
	for _, x := range []struct {
		what  string
		pours []api.Pour
		e     api.Errno
	}{
		{"the parts", pairs(0, 3, 0, 3, 1, 1, 0, 3, 1, 1, 0, 2), api.OK},
		{"a hold in another order", pairs(0, 3, 0, 2, 1, 1, 0, 3, 1, 1, 0, 3), api.ErrProof},
		{"too few pours", pairs(0, 3, 0, 3, 1, 1, 0, 3, 0, 2), api.ErrProof},
		{"too many pours", pairs(0, 3, 0, 3, 1, 1, 0, 3, 1, 1, 0, 2, 1, 1), api.ErrProof},
		{"other parts", pairs(0, 3, 0, 3, 1, 2, 0, 3, 0, 2), api.ErrProof},
		{"other parts with the same sum", pairs(0, 4, 0, 3, 1, 1, 0, 2, 1, 1, 0, 2), api.ErrProof},
		{"another hold", pairs(1, 3, 1, 3, 0, 1, 1, 3, 0, 1, 1, 2), api.ErrProof},
		{"no pours", nil, api.ErrProof},
		{"parts that are not safe either", pairs(0, 3, 0, 100), api.ErrProof},
	} {
		expect(t, x.what, load.CheckSequence(s, masses, 4, x.pours), x.e)
	}
	l := ok[[]api.Pour](t, "Sequence")(load.Sequence(s, masses, 4))
	expect(t, "Sequence is a loading", isLoading(masses, 4, l), true)
}

// TestNumberOfParts checks the limit of parts, which counts those above 0 alone.
func TestNumberOfParts(t *testing.T) {
	s := wideShip(4)
	l := ok[[]api.Pour](t, "32 parts")(load.Sequence(s, []int{10, 10, 10, 2}, 10))
	expect(t, "the number of pours", len(l), 32)
	expectError(t, "33 parts", "Sequence", args{ship: s, masses: []int{10, 10, 10, 3}, passes: 10}, api.ErrMany)
	expect(t, "CheckSequence of 33 parts", load.CheckSequence(s, []int{10, 10, 10, 3}, 10, nil), api.ErrMany)
	l = ok[[]api.Pour](t, "32 parts in 32 passes")(load.Sequence(s, []int{8, 8, 8, 8}, 32))
	expect(t, "the number of pours", len(l), 32)
	l = ok[[]api.Pour](t, "32 parts of one hold")(load.Sequence(s, []int{0, api.MaxMass, 0, 0}, 32))
	expect(t, "a loading of one hold", isLoading([]int{0, api.MaxMass, 0, 0}, 32, l), true)
}

// TestNumberOfStates checks the limit of the search: 5^5 times 2^4 is MaxStates.
func TestNumberOfStates(t *testing.T) {
	s := wideShip(9)
	masses := []int{4, 5, 6, 7, 8, 1, 1, 1, 1}
	l := ok[[]api.Pour](t, "50000 states")(load.Sequence(s, masses, 4))
	expect(t, "a loading", isLoading(masses, 4, l), true)
	more := slices.Clone(masses)
	more[8] = 2
	expectError(t, "75000 states", "Sequence", args{ship: s, masses: more, passes: 4}, api.ErrLimit)
	further := append(slices.Clone(l), api.Pour{Hold: 8, Mass: 1})
	expect(t, "CheckSequence of 75000 states", load.CheckSequence(s, more, 4, further), api.OK)
	s.Holds[0].Room = 3
	expectError(t, "no loading", "Sequence", args{ship: s, masses: masses, passes: 4}, api.ErrNone)
	expectError(t, "no loading, and too many states", "Sequence", args{ship: s, masses: more, passes: 4}, api.ErrLimit)
}

// TestLostStates checks a ship in which many orders of pours lead to a state from which there is no way on.
func TestLostStates(t *testing.T) {
	s := wideShip(6)
	masses := slices.Repeat([]int{5000}, 6)
	// Pours change the trim by 1, 3 or 5 times 200/7, one way or the other. With 3 as the limit a change by 5 is possible from 2 on the other side.
	s.Trim = "600/7"
	l := ok[[]api.Pour](t, "Sequence")(load.Sequence(s, masses, 5))
	expect(t, "a loading", isLoading(masses, 5, l), true)
	expect(t, "a safe one", areSafe(s, l), true)
	s.Trim = "85"
	expectError(t, "a lesser trim", "Sequence", args{ship: s, masses: masses, passes: 5}, api.ErrNone)
}
