package load_test

import (
	"fmt"
	"math"
	"reflect"
	"slices"
	"testing"

	"bushel/api"
	"bushel/load"
)

// args are arguments of all functions.
type args struct {
	ship    api.Ship
	masses  []int
	passes  int
	pours   []api.Pour
	table   []api.Point
	mass    int
	draught api.Rat
	total   int
	rooms   []int
	yard    api.Yard
	moves   []api.Move
	wanted  [][]int
}

// goodArgs returns arguments with which a function returns no error: those of the document's examples.
func goodArgs(name string) args {
	a := args{
		ship: exampleShip(), masses: []int{40, 40}, passes: 2, pours: pours(20, 0, 1, 0, 1),
		table: exampleTable(), mass: 2000, draught: "65", total: 11, rooms: []int{2, 9, 9},
		yard: exampleYard(), moves: []api.Move{{From: 0, To: 1, Cars: 3}, {From: 1, To: 2, Cars: 2}}, wanted: [][]int{{2, 1, 3}, nil, nil},
	}
	if name == "Fault" {
		a.masses = []int{40, 0}
	}
	return a
}

// call calls a function, and returns its results as a list and its error.
type call func(a args) ([]any, api.Errno)

// one makes a call of a function with one result beside its error.
func one[T any](f func(a args) (T, api.Errno)) call {
	return func(a args) ([]any, api.Errno) {
		x, e := f(a)
		return []any{x}, e
	}
}

// two makes a call of a function with two results beside its error.
func two[T, U any](f func(a args) (T, U, api.Errno)) call {
	return func(a args) ([]any, api.Errno) {
		x, y, e := f(a)
		return []any{x, y}, e
	}
}

// bare makes a call of a function that returns an error alone.
func bare(f func(a args) api.Errno) call {
	return func(a args) ([]any, api.Errno) { return nil, f(a) }
}

// calls has a call of each function of the package.
func calls() map[string]call {
	return map[string]call{
		"CheckShip": bare(func(a args) api.Errno { return load.CheckShip(a.ship) }),
		"Loads":     one(func(a args) ([]api.Rat, api.Errno) { return load.Loads(a.ship, a.masses) }),
		"Buoyancy":  one(func(a args) ([]api.Rat, api.Errno) { return load.Buoyancy(a.ship, a.masses) }),
		"Trim":      one(func(a args) (api.Rat, api.Errno) { return load.Trim(a.ship, a.masses) }),
		"Shear":     one(func(a args) ([]api.Rat, api.Errno) { return load.Shear(a.ship, a.masses) }),
		"Bending":   one(func(a args) ([]api.Rat, api.Errno) { return load.Bending(a.ship, a.masses) }),
		"Safe":      one(func(a args) (bool, api.Errno) { return load.Safe(a.ship, a.masses) }),
		"Fault":     two(func(a args) (string, int, api.Errno) { return load.Fault(a.ship, a.masses) }),
		"Run":       one(func(a args) ([][]int, api.Errno) { return load.Run(a.ship, a.pours) }),
		"Sequence":  one(func(a args) ([]api.Pour, api.Errno) { return load.Sequence(a.ship, a.masses, a.passes) }),
		"CheckSequence": bare(func(a args) api.Errno {
			return load.CheckSequence(a.ship, a.masses, a.passes, a.pours)
		}),
		"CheckTable":   bare(func(a args) api.Errno { return load.CheckTable(a.table) }),
		"Draught":      one(func(a args) (api.Rat, api.Errno) { return load.Draught(a.table, a.mass) }),
		"Most":         one(func(a args) (int, api.Errno) { return load.Most(a.table, a.draught) }),
		"Spread":       one(func(a args) ([]int, api.Errno) { return load.Spread(a.total, a.rooms) }),
		"CheckYard":    bare(func(a args) api.Errno { return load.CheckYard(a.yard) }),
		"Arrangements": one(func(a args) (int, api.Errno) { return load.Arrangements(a.yard) }),
		"Apply":        one(func(a args) (api.Yard, api.Errno) { return load.Apply(a.yard, a.moves) }),
		"Back":         one(func(a args) ([]api.Move, api.Errno) { return load.Back(a.moves), api.OK }),
		"Distance":     one(func(a args) (int, api.Errno) { return load.Distance(a.yard, a.wanted) }),
		"Shunt":        one(func(a args) ([]api.Move, api.Errno) { return load.Shunt(a.yard, a.wanted) }),
		"Rings":        one(func(a args) ([]int, api.Errno) { return load.Rings(a.yard) }),
	}
}

// ofCargoes returns the names of the functions with a ship and masses in its holds.
func ofCargoes() []string {
	return []string{"Loads", "Buoyancy", "Trim", "Shear", "Bending", "Safe", "Fault", "Sequence", "CheckSequence"}
}

// ofShips, ofTables and ofYards return the names of the functions with these arguments.
func ofShips() []string { return append([]string{"CheckShip", "Run"}, ofCargoes()...) }

func ofTables() []string { return []string{"CheckTable", "Draught", "Most"} }

func ofYards() []string {
	return []string{"CheckYard", "Arrangements", "Apply", "Distance", "Shunt", "Rings"}
}

// fault is a change of arguments that causes an error.
type fault struct {
	what   string
	e      api.Errno
	change func(a *args)
}

// expectErrors checks that a function returns the error of each fault, alone and together with all those behind it, and nothing beside it.
func expectErrors(t *testing.T, name string, faults ...fault) {
	t.Helper()
	_, e := calls()[name](goodArgs(name))
	expect(t, name+" of good arguments", e, api.OK)
	for i, f := range faults {
		a := goodArgs(name)
		f.change(&a)
		expectError(t, name+": "+f.what, name, a, f.e)
		a = goodArgs(name)
		for _, later := range slices.Backward(faults[i:]) {
			later.change(&a)
		}
		expectError(t, name+": "+f.what+" and more", name, a, f.e)
	}
}

// expectError checks that a function returns an error, and nothing beside it.
func expectError(t *testing.T, what, name string, a args, want api.Errno) {
	t.Helper()
	results, e := calls()[name](a)
	expect(t, what, e, want)
	for _, x := range results {
		if v := reflect.ValueOf(x); !v.IsZero() && (v.Kind() != reflect.Slice || v.Len() > 0) {
			t.Errorf("%.300s: %v beside an error", what, x)
		}
	}
}

// expectNumberErrors checks that functions return the error of each text that is not a number, in a place of their arguments.
func expectNumberErrors(t *testing.T, place func(a *args) *api.Rat, names ...string) {
	t.Helper()
	bad := map[api.Rat]api.Errno{
		"": api.ErrForm, "x": api.ErrForm, "-0": api.ErrForm, "01": api.ErrForm, "1.5": api.ErrForm, "2/4": api.ErrForm, "3/1": api.ErrForm,
		"1/0": api.ErrForm, nines(601): api.ErrLarge, "-" + nines(601): api.ErrLarge, "1/" + nines(601): api.ErrLarge,
	}
	for _, name := range names {
		for text, e := range bad {
			a := goodArgs(name)
			*place(&a) = text
			expectError(t, fmt.Sprintf("%s of %.30q", name, string(text)), name, a, e)
		}
	}
}

// badStation is a station with an error, and bad ones behind it.
func badStation(weight int, carry api.Rat, shear, bending int) func(a *args) {
	return func(a *args) {
		n := len(a.ship.Weight)
		if n != 4 {
			return
		}
		a.ship.Weight[1], a.ship.Carry[1], a.ship.Shear[1], a.ship.Bending[1] = weight, carry, shear, bending
		a.ship.Weight[2], a.ship.Carry[2], a.ship.Shear[2], a.ship.Bending[2] = -1, "x", -1, -1
	}
}

// badHold is a hold with an error, and a bad one behind it.
func badHold(h api.Hold) func(a *args) {
	return func(a *args) { a.ship.Holds = []api.Hold{hold(0, 2, 40), h, hold(-1, 9, -1)} }
}

// shipFaults are the errors of CheckShip, in their order.
func shipFaults() []fault {
	long, least := nines(601), math.MinInt
	lengths := func(n, carry, shear, bending int) func(a *args) {
		return func(a *args) {
			a.ship.Weight, a.ship.Carry, a.ship.Shear, a.ship.Bending = make([]int, n), make([]api.Rat, carry), make([]int, shear), make([]int, bending)
		}
	}
	return []fault{
		{"no stations", api.ErrShape, lengths(0, 0, 0, 0)},
		{"no weights", api.ErrShape, lengths(0, 4, 4, 4)},
		{"too many stations", api.ErrMany, lengths(25, 25, 25, 25)},
		{"too many weights", api.ErrMany, lengths(25, 4, 4, 4)},
		{"fewer Carry", api.ErrShape, lengths(4, 3, 4, 4)},
		{"more Carry", api.ErrShape, lengths(4, 5, 4, 4)},
		{"fewer Shear", api.ErrShape, lengths(4, 4, 3, 4)},
		{"more Shear", api.ErrShape, lengths(4, 4, 5, 4)},
		{"no Bending", api.ErrShape, lengths(4, 4, 4, 0)},
		{"more Bending", api.ErrShape, lengths(4, 4, 4, 5)},
		{"a negative weight", api.ErrRange, badStation(-1, "x", -1, -1)},
		{"the least weight", api.ErrRange, badStation(least, "x", -1, -1)},
		{"a weight that is too great", api.ErrRange, badStation(api.MaxMass+1, "x", -1, -1)},
		{"a Carry that is no number", api.ErrForm, badStation(api.MaxMass, "x", -1, -1)},
		{"no Carry", api.ErrForm, badStation(0, "", -1, -1)},
		{"a Carry that is too long", api.ErrLarge, badStation(1, long, -1, -1)},
		{"a Carry that is 0", api.ErrRange, badStation(1, "0", 1, 1)},
		{"a negative Carry", api.ErrRange, badStation(1, "-1/2", 1, 1)},
		{"a negative Shear", api.ErrRange, badStation(1, "1", -1, 1)},
		{"a Shear that is too great", api.ErrRange, badStation(1, "1", api.MaxMass+1, 1)},
		{"a negative Bending", api.ErrRange, badStation(1, "1", 1, -1)},
		{"a Bending that is too great", api.ErrRange, badStation(1, "1", 1, math.MaxInt)},
		{"no holds", api.ErrShape, func(a *args) { a.ship.Holds = nil }},
		{"too many holds", api.ErrMany, func(a *args) { a.ship.Holds = make([]api.Hold, 13) }},
		{"a negative From", api.ErrRange, badHold(hold(-1, 3, 0))},
		{"the least From", api.ErrRange, badHold(hold(least, math.MaxInt, 0))},
		{"no stations of a hold", api.ErrRange, badHold(hold(2, 2, 0))},
		{"fewer than none", api.ErrRange, badHold(hold(3, 1, 0))},
		{"a To behind the last station", api.ErrRange, badHold(hold(1, 5, 0))},
		{"the greatest To", api.ErrRange, badHold(hold(2, math.MaxInt, 0))},
		{"a negative room", api.ErrRange, badHold(hold(1, 3, -1))},
		{"a room that is too great", api.ErrRange, badHold(hold(1, 3, api.MaxMass+1))},
		{"a hold that is not behind the one before", api.ErrOrder, badHold(hold(1, 3, 0))},
		{"a hold in front of the one before", api.ErrOrder, badHold(hold(0, 1, 0))},
		{"a Trim that is no number", api.ErrForm, func(a *args) { a.ship.Trim = "" }},
		{"a Trim that is too long", api.ErrLarge, func(a *args) { a.ship.Trim = "-" + long }},
		{"a negative Trim", api.ErrRange, func(a *args) { a.ship.Trim = "-1/3" }},
	}
}

// massesFaults are the errors of masses, in their order.
func massesFaults() []fault {
	masses := func(l ...int) func(a *args) { return func(a *args) { a.masses = l } }
	return []fault{
		{"no masses", api.ErrShape, masses()},
		{"too few masses", api.ErrShape, masses(-1)},
		{"too many masses", api.ErrShape, masses(-1, 0, 0)},
		{"a negative mass", api.ErrRange, masses(0, -1)},
		{"the least mass", api.ErrRange, masses(math.MinInt, 0)},
		{"a mass that is too great", api.ErrRange, masses(api.MaxMass, api.MaxMass+1)},
	}
}

// passesFaults are the errors of passes, in their order.
func passesFaults() []fault {
	passes := func(n int) func(a *args) { return func(a *args) { a.passes = n } }
	return []fault{
		{"no passes", api.ErrRange, passes(0)},
		{"fewer than none", api.ErrRange, passes(math.MinInt)},
		{"too many passes", api.ErrRange, passes(33)},
		{"far too many passes", api.ErrRange, passes(math.MaxInt)},
		{"too many parts", api.ErrMany, passes(17)},
	}
}

// poursFaults are the errors of pours, in their order.
func poursFaults() []fault {
	second := func(p api.Pour) func(a *args) {
		return func(a *args) { a.pours = []api.Pour{{Hold: 0, Mass: 20}, p, {Hold: -1, Mass: -1}} }
	}
	return []fault{
		{"too many pours", api.ErrMany, func(a *args) { a.pours = pours(-1, make([]int, 33)...) }},
		{"a negative hold", api.ErrUnknown, second(api.Pour{Hold: -1})},
		{"a hold that is not there", api.ErrUnknown, second(api.Pour{Hold: 2, Mass: -1})},
		{"the least hold", api.ErrUnknown, second(api.Pour{Hold: math.MinInt, Mass: 1})},
		{"no mass", api.ErrRange, second(api.Pour{Hold: 1})},
		{"a negative mass", api.ErrRange, second(api.Pour{Hold: 1, Mass: math.MinInt})},
		{"a mass that is too great", api.ErrRange, second(api.Pour{Hold: 1, Mass: api.MaxMass + 1})},
	}
}

// tableFaults are the errors of CheckTable, in their order.
func tableFaults() []fault {
	table := func(texts ...api.Rat) func(a *args) {
		return func(a *args) {
			a.table = nil
			for pair := range slices.Chunk(texts, 2) {
				a.table = append(a.table, api.Point{X: pair[0], Y: pair[1]})
			}
		}
	}
	return []fault{
		{"no points", api.ErrShape, table()},
		{"too many points", api.ErrMany, func(a *args) { a.table = make([]api.Point, 65) }},
		{"an X that is no number", api.ErrForm, table("1", "-1", "x", "x")},
		{"an X that is too long", api.ErrLarge, table("1", "-1", nines(601), "x")},
		{"a Y that is no number", api.ErrForm, table("1", "-1", "1", "1.5")},
		{"X that do not ascend", api.ErrOrder, table("1", "-1", "1", "0", "x", "x")},
		{"a table that does not begin at 0", api.ErrRange, table("1", "2", "2", "1", "3", "-1")},
		{"a table that begins below 0", api.ErrRange, table("-1/2", "2", "0", "1")},
		{"a negative Y", api.ErrRange, table("0", "-1", "1", "-2")},
		{"a negative Y behind one that falls", api.ErrOrder, table("0", "2", "1", "1", "2", "-1")},
		{"a Y that is negative and falls", api.ErrRange, table("0", "2", "1", "-1/9", "2", "-1")},
		{"a Y that falls", api.ErrOrder, table("0", "2", "1", "2", "2", "19/10")},
	}
}

// yardFaults are the errors of CheckYard, in their order.
func yardFaults() []fault {
	rooms := func(l ...int) func(a *args) { return func(a *args) { a.yard.Room = l } }
	cars := func(l ...int) func(a *args) {
		return func(a *args) { a.yard.Tracks = [][]int{{9}, l, {0, -1}}[:len(a.yard.Tracks)] }
	}
	tracks := func(n int) func(a *args) { return func(a *args) { a.yard.Tracks = make([][]int, n) } }
	last := func(l ...int) func(a *args) {
		return func(a *args) { a.yard.Tracks = [][]int{{9}, nil, l} }
	}
	return []fault{
		{"no tracks", api.ErrShape, tracks(0)},
		{"too many tracks", api.ErrMany, tracks(7)},
		{"no rooms", api.ErrShape, rooms()},
		{"too few rooms", api.ErrShape, rooms(-1, 9)},
		{"too many rooms", api.ErrShape, rooms(-1, 9, 9, 9)},
		{"a negative room", api.ErrRange, rooms(0, -1, 0)},
		{"a room that is too great", api.ErrRange, rooms(0, 0, 9)},
		{"the greatest room", api.ErrRange, rooms(math.MaxInt, 0, 0)},
		{"no number of a car", api.ErrRange, cars(0, 9)},
		{"a negative number", api.ErrRange, cars(math.MinInt, 9)},
		{"a number that is too great", api.ErrRange, cars(api.MaxNumber+1, 9)},
		{"a car twice", api.ErrTwice, cars(3, 9, 0)},
		{"a car twice on a track", api.ErrTwice, cars(3, 3, 0)},
		{"a number that is too great at last", api.ErrRange, last(1, 2, 3, 4, 5, 6, 7, 8, 10, api.MaxNumber+1)},
		{"a car twice at last", api.ErrTwice, last(1, 2, 3, 4, 5, 6, 7, 8, 10, 11, 9)},
		{"too many cars", api.ErrMany, last(1, 2, 3, 4, 5, 6, 7, 8)},
		{"too many cars on a track", api.ErrFull, last(1, 2, 3, 4)},
		{"a car without room", api.ErrFull, rooms(2, 3, 3)},
	}
}

// wantedFaults are the errors of a wanted arrangement, in their order.
func wantedFaults() []fault {
	wanted := func(l ...[]int) func(a *args) { return func(a *args) { a.wanted = l } }
	return []fault{
		{"no tracks", api.ErrShape, wanted()},
		{"too few tracks", api.ErrShape, wanted([]int{9}, []int{1, 1})},
		{"too many tracks", api.ErrShape, wanted([]int{9}, []int{1, 1}, nil, nil)},
		{"a car that is not there", api.ErrUnknown, wanted([]int{1}, []int{2, 4, 2}, nil)},
		{"a car that is none", api.ErrUnknown, wanted([]int{1}, []int{-1}, nil)},
		{"a car twice", api.ErrTwice, wanted([]int{1}, []int{2, 1, 4}, nil)},
		{"a car twice on a track", api.ErrTwice, wanted([]int{1, 1}, []int{4}, nil)},
		{"a car that is missing", api.ErrShape, wanted([]int{1}, nil, []int{3})},
		{"no cars", api.ErrShape, wanted(nil, nil, nil)},
	}
}
