package load_test

import (
	"fmt"
	"math/big"
	"math/rand"
	"slices"
	"testing"

	"bushel/api"
	"bushel/load"
)

// P8.1: ships, and what a cargo makes of them.

func TestErrorsOfShips(t *testing.T) {
	expectErrors(t, "CheckShip", shipFaults()...)
	for _, name := range []string{"Loads", "Buoyancy", "Trim", "Shear", "Bending", "Safe", "Fault"} {
		expectErrors(t, name, append(shipFaults(), massesFaults()...)...)
	}
	for k := range 4 {
		expectNumberErrors(t, func(a *args) *api.Rat { return &a.ship.Carry[k] }, ofShips()...)
	}
	expectNumberErrors(t, func(a *args) *api.Rat { return &a.ship.Trim }, ofShips()...)
}

// greatShip returns a ship in which everything is as great as possible.
func greatShip() api.Ship {
	s := api.Ship{Trim: nines(600)}
	for k := range api.MaxStations {
		s.Weight, s.Carry = append(s.Weight, api.MaxMass), append(s.Carry, nines(600))
		s.Shear, s.Bending = append(s.Shear, api.MaxMass), append(s.Bending, api.MaxMass)
		if k%2 == 1 {
			s.Holds = append(s.Holds, hold(k-1, k+1, api.MaxMass))
		}
	}
	return s
}

func TestCheckShip(t *testing.T) {
	expect(t, "the greatest ship", load.CheckShip(greatShip()), api.OK)
	least := api.Ship{Holds: []api.Hold{hold(0, 1, 0)}, Weight: []int{0}, Carry: []api.Rat{"1/" + nines(600)}, Shear: []int{0}, Bending: []int{0}, Trim: "0"}
	expect(t, "the least ship", load.CheckShip(least), api.OK)
	for _, holds := range [][]api.Hold{
		{hold(0, 4, 0)}, {hold(3, 4, 1)}, {hold(0, 1, 1), hold(1, 2, 1), hold(2, 3, 1), hold(3, 4, 1)}, {hold(1, 2, 5), hold(3, 4, 5)},
	} {
		s := exampleShip()
		s.Holds = holds
		expect(t, fmt.Sprint("the holds ", holds), load.CheckShip(s), api.OK)
	}
}

// TestSingleErrors checks errors of stations and holds where nothing else is wrong.
func TestSingleErrors(t *testing.T) {
	for what, change := range map[string]func(s *api.Ship){
		"a weight below 0":   func(s *api.Ship) { s.Weight[3] = -1 },
		"a Carry of 0":       func(s *api.Ship) { s.Carry[3] = "0" },
		"a Carry below 0":    func(s *api.Ship) { s.Carry[3] = "-2" },
		"a Shear below 0":    func(s *api.Ship) { s.Shear[3] = -1 },
		"a Bending below 0":  func(s *api.Ship) { s.Bending[3] = -1 },
		"a From below 0":     func(s *api.Ship) { s.Holds[0].From = -1 },
		"an empty hold":      func(s *api.Ship) { s.Holds[1].From = 4 },
		"a hold that is too": func(s *api.Ship) { s.Holds[0].To = 0 },
		"a To that is far":   func(s *api.Ship) { s.Holds[1].To = 5 },
		"a room below 0":     func(s *api.Ship) { s.Holds[1].Room = -1 },
		"a Trim below 0":     func(s *api.Ship) { s.Trim = "-1" },
	} {
		s := exampleShip()
		change(&s)
		expect(t, what, load.CheckShip(s), api.ErrRange)
	}
}

func TestExamplesOfForces(t *testing.T) {
	for _, x := range []struct {
		masses                              []int
		loads, buoyancies, shears, bendings []api.Rat
		trim                                api.Rat
	}{
		{[]int{20, 0}, []api.Rat{"20", "20", "10", "10"}, []api.Rat{"21", "17", "13", "9"}, []api.Rat{"-1", "2", "-1", "0"}, []api.Rat{"-1", "1", "0", "0"}, "-4"},
		{[]int{40, 0}, []api.Rat{"30", "30", "10", "10"}, []api.Rat{"32", "24", "16", "8"}, []api.Rat{"-2", "4", "-2", "0"}, []api.Rat{"-2", "2", "0", "0"}, "-8"},
		{[]int{0, 0}, []api.Rat{"10", "10", "10", "10"}, []api.Rat{"10", "10", "10", "10"}, []api.Rat{"0", "0", "0", "0"}, []api.Rat{"0", "0", "0", "0"}, "0"},
		{[]int{0, 1}, []api.Rat{"10", "10", "21/2", "21/2"}, []api.Rat{"99/10", "101/10", "103/10", "21/2"}, []api.Rat{"1/10", "0", "1/5", "1/5"}, nil, "1/5"},
	} {
		s := exampleShip()
		expect(t, "Loads", ok[[]api.Rat](t, "Loads")(load.Loads(s, x.masses)), x.loads)
		expect(t, "Trim", ok[api.Rat](t, "Trim")(load.Trim(s, x.masses)), x.trim)
		if x.bendings == nil {
			continue
		}
		expect(t, "Buoyancy", ok[[]api.Rat](t, "Buoyancy")(load.Buoyancy(s, x.masses)), x.buoyancies)
		expect(t, "Shear", ok[[]api.Rat](t, "Shear")(load.Shear(s, x.masses)), x.shears)
		expect(t, "Bending", ok[[]api.Rat](t, "Bending")(load.Bending(s, x.masses)), x.bendings)
	}
}

// expectForces checks all forces by their definitions, also whether they are too long.
func expectForces(t *testing.T, s api.Ship, masses []int) {
	t.Helper()
	f := forcesOf(s, masses)
	for name, x := range map[string]struct {
		call func(s api.Ship, masses []int) ([]api.Rat, api.Errno)
		want []*big.Rat
	}{
		"Loads": {load.Loads, f.loads}, "Buoyancy": {load.Buoyancy, f.buoyancies}, "Shear": {load.Shear, f.shears}, "Bending": {load.Bending, f.bendings},
	} {
		got, e := x.call(s, masses)
		want, wantError := results(x.want)
		expect(t, fmt.Sprint("the error of ", name, s, masses), e, wantError)
		expectList(t, fmt.Sprint(name, s, masses), got, want)
	}
	got, e := load.Trim(s, masses)
	want, wantError := result(f.trim)
	expect(t, fmt.Sprint("the error of Trim", s, masses), e, wantError)
	expect(t, fmt.Sprint("Trim", s, masses), got, want)
}

func TestForces(t *testing.T) {
	r := rand.New(rand.NewSource(1))
	for i := range 400 {
		s, masses := randomShip(r, []int{1, 2, 5, 24}[i%4], []int{1, 3, 50}[i%3])
		if len(s.Holds) == 0 {
			continue
		}
		expectForces(t, s, masses)
	}
	great := greatShip()
	expectForces(t, great, slices.Repeat([]int{api.MaxMass}, api.MaxHolds))
	expectForces(t, great, append(make([]int, 11), api.MaxMass))
}

// TestEquationsOfBuoyancy checks the two equations, and that what is carried for each 1 rises by the trim from station to station.
func TestEquationsOfBuoyancy(t *testing.T) {
	r := rand.New(rand.NewSource(2))
	for range 200 {
		s, masses := randomShip(r, 9, 7)
		if len(s.Holds) == 0 {
			continue
		}
		what := fmt.Sprint(s, masses)
		loads := toBigs(ok[[]api.Rat](t, what)(load.Loads(s, masses)))
		buoyancies := toBigs(ok[[]api.Rat](t, what)(load.Buoyancy(s, masses)))
		trim := toBig(ok[api.Rat](t, what)(load.Trim(s, masses)))
		sum, turn := new(big.Rat), new(big.Rat)
		for k := range loads {
			gap := sub(loads[k], buoyancies[k])
			sum, turn = add(sum, gap), add(turn, mul(whole(k), gap))
			if k > 0 {
				rise := sub(quo(buoyancies[k], toBig(s.Carry[k])), quo(buoyancies[k-1], toBig(s.Carry[k-1])))
				expect(t, "the rise "+what, ofBig(rise), ofBig(trim))
			}
		}
		expect(t, "the sum and the moment "+what, []int{sum.Sign(), turn.Sign()}, []int{0, 0})
	}
}

func TestOneStation(t *testing.T) {
	s := api.Ship{Holds: []api.Hold{hold(0, 1, 9)}, Weight: []int{5}, Carry: []api.Rat{"2/7"}, Shear: []int{0}, Bending: []int{0}, Trim: "0"}
	expectList(t, "Loads", ok[[]api.Rat](t, "Loads")(load.Loads(s, []int{3})), []api.Rat{"8"})
	expectList(t, "Buoyancy", ok[[]api.Rat](t, "Buoyancy")(load.Buoyancy(s, []int{3})), []api.Rat{"8"})
	expect(t, "Trim", ok[api.Rat](t, "Trim")(load.Trim(s, []int{3})), api.Rat("0"))
	expectList(t, "Shear", ok[[]api.Rat](t, "Shear")(load.Shear(s, []int{3})), []api.Rat{"0"})
	expectList(t, "Bending", ok[[]api.Rat](t, "Bending")(load.Bending(s, []int{3})), []api.Rat{"0"})
	expect(t, "Safe", ok[bool](t, "Safe")(load.Safe(s, []int{9})), true)
}

// TestLongForces checks the limit of digits: numbers on the way have none.
func TestLongForces(t *testing.T) {
	r := rand.New(rand.NewSource(3))
	codes := map[api.Errno]int{}
	for i := range 60 {
		s, masses := randomShip(r, 4, 5)
		if len(s.Holds) == 0 {
			continue
		}
		for k := range s.Carry {
			digits := []int{100, 150, 199, 200, 299, 300, 600}[r.Intn(7)]
			long := []api.Rat{nines(digits), power(digits - 1), "1/" + nines(digits), nines(digits) + "/" + power(digits-1)}
			if i%2 == 0 || k == 0 {
				s.Carry[k] = long[r.Intn(4)]
			}
		}
		expectForces(t, s, masses)
		_, e := load.Trim(s, masses)
		codes[e]++
	}
	if codes[api.OK] < 10 || codes[api.ErrLarge] < 10 {
		t.Errorf("the errors are %v", codes)
	}
	// The trim is the load divided by Carry, and has one digit more than fits.
	s := api.Ship{Holds: []api.Hold{hold(1, 2, 9)}, Weight: []int{0, 0}, Carry: []api.Rat{"1", "1/" + power(599)}, Shear: []int{0, 0}, Bending: []int{0, 0}, Trim: power(599)}
	expect(t, "600 digits", ok[api.Rat](t, "Trim")(load.Trim(s, []int{9})), api.Rat("9"+power(599)[1:]))
	s.Holds[0].Room = 10
	expectError(t, "601 digits", "Trim", args{ship: s, masses: []int{10}}, api.ErrLarge)
	name, _, e := load.Fault(s, []int{10})
	expect(t, "a Fault needs no number", []any{name, e}, []any{"trim", api.OK})
}
