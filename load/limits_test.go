package load_test

import (
	"fmt"
	"math/rand"
	"testing"

	"bushel/api"
	"bushel/load"
)

// P8.2: the limits of ships.

// expectFault checks Safe and Fault; no name stands for a safe cargo.
func expectFault(t *testing.T, s api.Ship, masses []int, name string, number int) {
	t.Helper()
	what := fmt.Sprint(s, masses)
	expect(t, "Safe "+what, ok[bool](t, what)(load.Safe(s, masses)), name == "")
	got, at, e := load.Fault(s, masses)
	if name == "" {
		expectError(t, "Fault of a safe cargo "+what, "Fault", args{ship: s, masses: masses}, api.ErrNone)
		return
	}
	expect(t, "Fault "+what, []any{got, at, e}, []any{name, number, api.OK})
}

func TestExamplesOfLimits(t *testing.T) {
	s := exampleShip()
	expectFault(t, s, []int{20, 0}, "", 0)
	expectFault(t, s, []int{40, 0}, "trim", 0)
	expectFault(t, s, []int{41, 0}, "room", 0)
	expectFault(t, s, []int{0, 41}, "room", 1)
	expectFault(t, s, []int{41, 41}, "room", 0)
	expectFault(t, s, []int{40, 40}, "", 0)
	s.Trim = "3"
	expectFault(t, s, []int{20, 0}, "trim", 0)
	s.Trim = "8"
	expectFault(t, s, []int{40, 0}, "", 0)
}

// TestEdgesOfLimits checks each limit where it is just reached, and where it is just not.
func TestEdgesOfLimits(t *testing.T) {
	// Of the masses 20, 0 the shears are -1, 2, -1, 0, the bendings -1, 1, 0, 0, and the trim is -4.
	for _, x := range []struct {
		what   string
		change func(s *api.Ship)
		name   string
		number int
	}{
		{"the room", func(s *api.Ship) { s.Holds[0].Room = 20 }, "", 0},
		{"no room", func(s *api.Ship) { s.Holds[0].Room = 19 }, "room", 0},
		{"the shears", func(s *api.Ship) { s.Shear = []int{1, 2, 1, 0} }, "", 0},
		{"the first shear", func(s *api.Ship) { s.Shear = []int{0, 1, 0, 0} }, "shear", 0},
		{"the second shear", func(s *api.Ship) { s.Shear = []int{1, 1, 0, 0} }, "shear", 1},
		{"the third shear", func(s *api.Ship) { s.Shear = []int{1, 2, 0, 0} }, "shear", 2},
		{"the bendings", func(s *api.Ship) { s.Bending = []int{1, 1, 0, 0} }, "", 0},
		{"the first bending", func(s *api.Ship) { s.Bending = []int{0, 0, 0, 0} }, "bending", 0},
		{"the second bending", func(s *api.Ship) { s.Bending = []int{1, 0, 0, 0} }, "bending", 1},
		{"shear and bending", func(s *api.Ship) { s.Shear, s.Bending = []int{1, 2, 0, 0}, make([]int, 4) }, "shear", 2},
		{"bending and trim", func(s *api.Ship) { s.Bending, s.Trim = []int{1, 0, 0, 0}, "0" }, "bending", 1},
		{"the trim", func(s *api.Ship) { s.Trim = "4" }, "", 0},
		{"nearly the trim", func(s *api.Ship) { s.Trim = nines(300) + "/" + "25" + power(298)[1:] }, "trim", 0},
	} {
		s := exampleShip()
		x.change(&s)
		expect(t, x.what, load.CheckShip(s), api.OK)
		expectFault(t, s, []int{20, 0}, x.name, x.number)
	}
	s := exampleShip()
	s.Trim = "4"
	expectFault(t, s, []int{0, 20}, "", 0)
	s.Trim = "39/10"
	expectFault(t, s, []int{0, 20}, "trim", 0)
}

func TestLift(t *testing.T) {
	// Four stations that carry alike have lift as long as the load is in the inner half.
	s := exampleShip()
	s.Weight, s.Trim = make([]int, 4), "100"
	s.Holds = []api.Hold{hold(0, 1, 40), hold(1, 2, 40), hold(3, 4, 40)}
	expectFault(t, s, []int{0, 0, 0}, "", 0)
	expectFault(t, s, []int{0, 20, 0}, "", 0)
	expectFault(t, s, []int{20, 0, 0}, "lift", 3)
	expectFault(t, s, []int{0, 0, 20}, "lift", 0)
	expectFault(t, s, []int{0, 0, 1}, "lift", 0)
	expectFault(t, s, []int{41, 0, 0}, "room", 0)
	// At 2/3 of the way one of three stations has no buoyancy at all.
	s = api.Ship{Holds: []api.Hold{hold(0, 1, 40), hold(1, 2, 40)}, Weight: []int{0, 0, 0}, Carry: []api.Rat{"1", "1", "1"}, Shear: []int{9, 9, 9}, Bending: []int{9, 9, 9}, Trim: "9"}
	expectFault(t, s, []int{4, 8}, "", 0)
	expectFault(t, s, []int{2, 1}, "", 0)
	expectFault(t, s, []int{3, 1}, "lift", 2)
	expect(t, "Buoyancy", ok[[]api.Rat](t, "Buoyancy")(load.Buoyancy(s, []int{2, 1})), []api.Rat{"2", "1", "0"})
}

func TestFaultsByDefinition(t *testing.T) {
	r := rand.New(rand.NewSource(4))
	counts := map[string]int{}
	for i := range 3000 {
		s, masses := randomShip(r, []int{2, 4, 7}[i%3], []int{1, 3}[i%2])
		if len(s.Holds) == 0 {
			continue
		}
		name, number := faultOf(s, masses)
		expectFault(t, s, masses, name, number)
		counts[name]++
	}
	for _, name := range []string{"", "room", "lift", "shear", "bending", "trim"} {
		if counts[name] < 20 {
			t.Errorf("%d cargoes with the fault %q", counts[name], name)
		}
	}
}
