package path_test

import (
	"fmt"
	"math"
	"math/rand"
	"slices"
	"testing"

	"bushel/api"
	"bushel/path"
)

// P5.1: plants, paths and routes.

func TestCheckPlant(t *testing.T) {
	chain, _ := chainOf(api.MaxSeconds)
	full := plantOf(nil, slices.Repeat([]string{"belt"}, api.MaxMachines)...)
	for i := range api.MaxArcs {
		full.Arcs = append(full.Arcs, [2]int{i % 64, (i%64 + 1 + i/64) % 64})
	}
	for what, p := range map[string]api.Plant{
		"the example": example(), "one machine": plantOf(nil, "spout"), "a chain": chain, "the most arcs": full,
		"all kinds":        plantOf(nil, "pit", "bin", "spout", "belt", "leg", "gate", "distributor", "scale"),
		"both directions":  plantOf([][2]int{{0, 1}, {1, 0}}, "bin", "belt"),
		"from pit to bin":  plantOf([][2]int{{0, 1}}, "pit", "bin"),
		"from bin to bin":  plantOf([][2]int{{0, 1}, {1, 0}}, "bin", "bin"),
		"to the spout":     plantOf([][2]int{{0, 1}, {2, 1}}, "pit", "spout", "belt"),
		"the least time":   {Machines: []api.Machine{{Kind: "leg"}}},
		"ends with a time": {Machines: []api.Machine{{Kind: "pit", Time: 5}, {Kind: "bin", Time: api.MaxSeconds}, {Kind: "spout", Time: 1}}},
	} {
		expect(t, what, path.CheckPlant(p), api.OK)
	}
	for _, kind := range []string{"", "Pit", "pit ", "silo", "belts", "sca", "binspout"} {
		expect(t, kind, path.CheckPlant(plantOf(nil, "pit", kind)), api.ErrKind)
	}
	for _, time := range []int{-1, api.MaxSeconds + 1, math.MinInt, math.MaxInt} {
		expect(t, fmt.Sprint(time), path.CheckPlant(api.Plant{Machines: []api.Machine{{Kind: "bin", Time: time}}}), api.ErrRange)
	}
}

// plantFaults are the errors of plants in their order, for a plant that is the example.
func plantFaults() []fault {
	return []fault{
		{"no machines", api.ErrShape, func(a *args) { a.plant.Machines = nil }},
		{"too many machines", api.ErrMany, func(a *args) { a.plant.Machines = make([]api.Machine, api.MaxMachines+1) }},
		{"a first machine with a bad kind", api.ErrKind, func(a *args) { a.plant.Machines[1] = api.Machine{Kind: "crane", Time: -1} }},
		{"a second machine with a bad time", api.ErrRange, func(a *args) { a.plant.Machines[2].Time = -1 }},
		{"a third machine with a bad kind", api.ErrKind, func(a *args) { a.plant.Machines[3].Kind = "crane" }},
		{"too many arcs", api.ErrMany, func(a *args) { a.plant.Arcs = slices.Repeat([][2]int{{0, 9}}, api.MaxArcs+1) }},
		{"an arc to an unknown machine", api.ErrUnknown, func(a *args) { a.plant.Arcs[0] = [2]int{7, 9} }},
		{"an arc from a machine to itself", api.ErrForm, func(a *args) { a.plant.Arcs[1] = [2]int{1, 1} }},
		{"an arc from an unknown machine", api.ErrUnknown, func(a *args) { a.plant.Arcs[2] = [2]int{-1, 0} }},
		{"an arc to a pit", api.ErrForm, func(a *args) { a.plant.Arcs[4] = [2]int{4, 0} }},
		{"an arc that is there twice", api.ErrTwice, func(a *args) { a.plant.Arcs[5] = [2]int{3, 4} }},
		{"an arc from a spout", api.ErrForm, func(a *args) { a.plant.Arcs[6] = [2]int{7, 6} }},
		{"a far machine", api.ErrUnknown, func(a *args) { a.plant.Arcs[7] = [2]int{math.MaxInt, math.MinInt} }},
	}
}

func TestErrorsOfPlants(t *testing.T) {
	expectErrors(t, "CheckPlant", goodArgs(), plantFaults())
	bad := args{path: []int{-1}, from: -1, sources: []int{-1}, machine: -1, tasks: make([]api.Task, api.MaxTasks+1)}
	for name := range calls() {
		for _, f := range plantFaults() {
			a := copyOf(bad)
			a.plant = example()
			f.change(&a)
			expectError(t, name+": "+f.what, name, a, f.e)
		}
	}
}

func TestErrorsOfPaths(t *testing.T) {
	good := goodArgs()
	expectErrors(t, "IsPath", good, []fault{plantFault(), pathFaults()[0]})
	expectErrors(t, "Time", good, append([]fault{plantFault()}, pathFaults()...))
	none := func(change func(a *args)) fault { return fault{"no path", api.ErrNone, change} }
	expectErrors(t, "Route", good, []fault{
		plantFault(),
		{"from an unknown machine", api.ErrUnknown, func(a *args) { a.from = 9 }},
		{"to an unknown machine", api.ErrUnknown, func(a *args) { a.to = -1 }},
		{"an unknown machine that is blocked", api.ErrUnknown, func(a *args) { a.blocked = []int{3, 9} }},
		none(func(a *args) { a.blocked = []int{3} }),
		none(func(a *args) { a.blocked = []int{0} }),
		none(func(a *args) { a.blocked = []int{7} }),
		none(func(a *args) { a.from, a.to = 7, 0 }),
		none(func(a *args) { a.from, a.to = 4, 4 }),
		none(func(a *args) { a.from, a.to = 1, 7 }),
		none(func(a *args) { a.from, a.to = 0, 3 }),
		none(func(a *args) { a.from, a.to = 0, 0 }),
		none(func(a *args) { a.from, a.to = 1, 1 }),
		none(func(a *args) { a.from, a.to = 5, 4 }),
	})
}

func TestIsPathAndTime(t *testing.T) {
	chain, whole := chainOf(api.MaxSeconds)
	double := plantOf([][2]int{{0, 1}, {1, 0}, {0, 2}, {2, 0}}, "bin", "belt", "bin")
	for _, row := range []struct {
		what string
		p    api.Plant
		path []int
		time int // -1 for no path
	}{
		{"the example", example(), []int{0, 1, 2, 3, 5}, 55}, {"the example", example(), []int{0, 1, 2, 3, 6, 7}, 95},
		{"from a bin", example(), []int{4, 8, 6, 7}, 42}, {"from a bin", example(), []int{5, 6, 7}, 40},
		{"all machines", chain, whole, 64 * api.MaxSeconds}, {"two ends", double, []int{0, 2}, 2}, {"and back", double, []int{2, 0}, 2},
		{"an end in a conveyor", example(), []int{0, 1, 2}, -1}, {"a start in one", example(), []int{1, 2, 3, 4}, -1},
		{"a bin inside", example(), []int{0, 1, 2, 3, 4, 8, 6, 7}, -1}, {"no arc", example(), []int{0, 2, 3, 4}, -1},
		{"the wrong way", example(), []int{4, 3, 2, 1, 0}, -1}, {"nothing", example(), nil, -1}, {"one machine", example(), []int{4}, -1},
		{"from a bin to itself", double, []int{0, 1, 0}, -1}, {"the same twice", example(), []int{0, 0}, -1},
		{"a very long list", example(), slices.Repeat([]int{0, 1, 2, 3}, 10000), -1},
	} {
		is, e := path.IsPath(row.p, row.path)
		expect(t, row.what, []any{is, e}, []any{row.time >= 0, api.OK})
		time, e := path.Time(row.p, row.path)
		if row.time >= 0 {
			expect(t, row.what, []any{time, e}, []any{row.time, api.OK})
		} else {
			expect(t, row.what, []any{time, e}, []any{0, api.ErrForm})
		}
	}
}

// TestIsPathOfAllLists checks all short lists of machines of small plants.
func TestIsPathOfAllLists(t *testing.T) {
	r := rand.New(rand.NewSource(51))
	paths := 0
	for range 150 {
		p := randomPlant(r, 2+r.Intn(4), 14)
		var check func(l []int)
		check = func(l []int) {
			is := ok[bool](t, "IsPath")(path.IsPath(p, l))
			expect(t, fmt.Sprint("IsPath ", p, l), is, isDefinedPath(p, l))
			if is {
				paths++
				expect(t, fmt.Sprint("Time ", p, l), ok[int](t, "Time")(path.Time(p, l)), seconds(p, l))
			}
			if len(l) <= 4 {
				for machine := range p.Machines {
					check(append(l, machine))
				}
			}
		}
		check(nil)
	}
	if paths < 100 {
		t.Errorf("only %d paths", paths)
	}
}

func TestRoute(t *testing.T) {
	for _, row := range []struct {
		from, to int
		blocked  []int
		want     []int
	}{
		{0, 7, nil, []int{0, 1, 2, 3, 6, 7}}, {0, 7, []int{4, 5, 8, 8}, []int{0, 1, 2, 3, 6, 7}}, {0, 4, nil, []int{0, 1, 2, 3, 4}},
		{4, 7, []int{5}, []int{4, 8, 6, 7}}, {5, 7, nil, []int{5, 6, 7}},
	} {
		got, e := path.Route(example(), row.from, row.to, row.blocked)
		expect(t, fmt.Sprint("Route ", row), []any{got, e}, []any{row.want, api.OK})
	}
	chain, whole := chainOf(api.MaxSeconds)
	got, e := path.Route(chain, 0, 63, nil)
	expect(t, "Route of all machines", []any{got, e}, []any{whole, api.OK})
	detour := plantOf([][2]int{{0, 1}, {1, 4}, {0, 2}, {2, 3}, {3, 4}, {4, 5}}, "pit", "belt", "leg", "leg", "belt", "spout")
	detour.Machines[1].Time = 3
	got, e = path.Route(detour, 0, 5, nil)
	expect(t, "a route with more machines", []any{got, e}, []any{[]int{0, 2, 3, 4, 5}, api.OK})
	direct := plantOf([][2]int{{0, 1}}, "bin", "bin")
	got, e = path.Route(direct, 0, 1, nil)
	expect(t, "a route without a conveyor", []any{got, e}, []any{[]int{0, 1}, api.OK})
	_, e = path.Route(direct, 1, 0, nil)
	expect(t, "a route against an arc", e, api.ErrNone)
}

// TestRouteAgainstAllPaths checks the times of routes against those of all paths.
func TestRouteAgainstAllPaths(t *testing.T) {
	r := rand.New(rand.NewSource(52))
	found := 0
	for range 400 {
		p := randomPlant(r, 2+r.Intn(7), 25)
		paths := allPaths(p)
		var blocked []int
		for range r.Intn(3) {
			blocked = append(blocked, r.Intn(len(p.Machines)))
		}
		for from := range p.Machines {
			for to := range p.Machines {
				what := fmt.Sprint("Route ", p, from, to, blocked)
				least := -1
				for _, l := range paths {
					fits := l[0] == from && l[len(l)-1] == to && !haveCommon(l, blocked)
					if fits && (least == -1 || seconds(p, l) < least) {
						least = seconds(p, l)
					}
				}
				got, e := path.Route(p, from, to, blocked)
				if least == -1 {
					expect(t, what, []any{len(got), e}, []any{0, api.ErrNone})
					continue
				}
				found++
				expect(t, what, e, api.OK)
				isRight := len(got) > 0 && got[0] == from && got[len(got)-1] == to && isDefinedPath(p, got) && !haveCommon(got, blocked)
				expect(t, what, []any{isRight, seconds(p, got)}, []any{true, least})
			}
		}
	}
	if found < 300 {
		t.Errorf("only %d routes", found)
	}
}

// TestRouteInGreatPlants checks the times of routes against potentials that no arc improves.
func TestRouteInGreatPlants(t *testing.T) {
	r := rand.New(rand.NewSource(53))
	for range 40 {
		p := randomPlant(r, api.MaxMachines, api.MaxArcs)
		for i := range p.Machines {
			p.Machines[i].Time = r.Intn(api.MaxSeconds + 1)
		}
		for from := range p.Machines {
			if !isOneOf(p, from, "pit", "bin") {
				continue
			}
			least := leastTimes(p, from)
			for to := range p.Machines {
				got, e := path.Route(p, from, to, nil)
				isPossible := to != from && isOneOf(p, to, "bin", "spout") && least[to] < math.MaxInt
				expect(t, fmt.Sprint("Route ", from, to), e == api.OK, isPossible)
				if e == api.OK {
					expect(t, fmt.Sprint("Route ", from, to), []any{isDefinedPath(p, got), seconds(p, got)}, []any{true, least[to]})
				}
			}
		}
	}
}

// leastTimes returns the least time from a machine to each one over conveyors, in rounds over all arcs.
func leastTimes(p api.Plant, from int) []int {
	least := slices.Repeat([]int{math.MaxInt}, len(p.Machines))
	least[from] = p.Machines[from].Time
	for range p.Machines {
		for _, arc := range p.Arcs {
			if least[arc[0]] < math.MaxInt && arc[1] != from && (arc[0] == from || !isEnd(p, arc[0])) {
				least[arc[1]] = min(least[arc[1]], least[arc[0]]+p.Machines[arc[1]].Time)
			}
		}
	}
	return least
}
