package path_test

import (
	"fmt"
	"math/bits"
	"math/rand"
	"slices"
	"testing"

	"bushel/api"
	"bushel/path"
)

// P5.2: paths without a common machine, and cuts.

// endFaults are the errors of sources and sinks in their order.
func endFaults() []fault {
	return []fault{
		plantFault(),
		{"an unknown source", api.ErrUnknown, func(a *args) { a.sources = []int{1, 0, 0, 9} }},
		{"a source that is a conveyor", api.ErrKind, func(a *args) { a.sources = []int{0, 0, 1} }},
		{"a source that is a spout", api.ErrKind, func(a *args) { a.sources = []int{0, 0, 7} }},
		{"a source that is there twice", api.ErrTwice, func(a *args) { a.sources = []int{0, 4, 0} }},
		{"an unknown sink", api.ErrUnknown, func(a *args) { a.sinks = []int{0, 5, 5, -1} }},
		{"a sink that is a pit", api.ErrKind, func(a *args) { a.sinks = []int{5, 5, 0} }},
		{"a sink that is a conveyor", api.ErrKind, func(a *args) { a.sinks = []int{5, 5, 8} }},
		{"a sink that is there twice", api.ErrTwice, func(a *args) { a.sinks = []int{5, 7, 4, 5} }},
		{"a source that is a sink", api.ErrTwice, func(a *args) { a.sinks = []int{5, 4} }},
	}
}

func TestErrorsOfEnds(t *testing.T) {
	good := goodArgs()
	for _, name := range []string{"Most", "Disjoint", "Cut"} {
		expectErrors(t, name, good, endFaults())
	}
	expectErrors(t, "CheckCut", good, append(endFaults(), []fault{
		{"an unknown machine in a cut", api.ErrUnknown, func(a *args) { a.machines = []int{3, 9} }},
		{"machines that are no cut", api.ErrProof, func(a *args) { a.machines = []int{3, 1} }},
	}...))
	paths := func(l ...[]int) func(a *args) { return func(a *args) { a.paths = l } }
	expectErrors(t, "CheckDisjoint", good, append(endFaults(), []fault{
		{"a first path without a form", api.ErrForm, paths([]int{0, 1}, []int{9})},
		{"a first path to another end", api.ErrForm, paths([]int{0, 1, 2, 3, 4}, []int{9})},
		{"a first path from another end", api.ErrForm, paths([]int{5, 6, 7}, []int{9})},
		{"an empty path", api.ErrForm, paths([]int{4, 8, 6, 7}, nil)},
		{"a second path that is unknown", api.ErrUnknown, paths([]int{4, 8, 6, 7}, []int{0, 1, 9}, []int{0, 1})},
		{"a third path to another end", api.ErrForm, paths([]int{4, 8, 6, 7}, []int{4, 8, 6, 7}, []int{0, 1, 2, 3, 4})},
		{"the same path twice", api.ErrTwice, paths([]int{4, 8, 6, 7}, []int{4, 8, 6, 7})},
		{"a common machine", api.ErrTwice, paths([]int{4, 8, 6, 7}, []int{0, 1, 2, 3, 6, 7})},
		{"very many paths", api.ErrTwice, func(a *args) { a.paths = slices.Repeat([][]int{{4, 8, 6, 7}}, 1000) }},
	}...))
}

func TestBottlenecks(t *testing.T) {
	square := plantOf([][2]int{{0, 2}, {0, 3}, {1, 2}, {1, 3}, {2, 4}, {2, 5}, {3, 5}}, "pit", "bin", "belt", "leg", "bin", "spout")
	// The shortest path takes the middle, and has to give way to two others.
	cross := plantOf([][2]int{{0, 2}, {0, 3}, {1, 3}, {2, 4}, {3, 5}, {3, 4}, {4, 6}, {5, 7}, {2, 5}}, "pit", "pit", "belt", "belt", "leg", "leg", "spout", "spout")
	direct := plantOf([][2]int{{0, 2}, {1, 2}, {1, 3}}, "pit", "bin", "bin", "spout")
	chain, _ := chainOf(0)
	for _, row := range []struct {
		what           string
		p              api.Plant
		sources, sinks []int
		most           int
	}{
		{"the example", example(), []int{0, 4}, []int{5, 7}, 2}, {"one distributor", example(), []int{0}, []int{4, 5}, 1},
		{"nothing", example(), nil, nil, 0}, {"no sinks", example(), []int{0, 4, 5}, nil, 0}, {"no sources", example(), nil, []int{4, 5, 7}, 0},
		{"no way", example(), []int{5}, []int{4}, 0}, {"one spout", example(), []int{0, 4, 5}, []int{7}, 1},
		{"a bin is not passed", plantOf([][2]int{{0, 1}, {1, 2}}, "pit", "bin", "spout"), []int{0}, []int{2}, 0},
		{"nor if it is a sink", plantOf([][2]int{{0, 1}, {1, 2}}, "pit", "bin", "spout"), []int{0}, []int{1, 2}, 1},
		{"nor if it is a source", plantOf([][2]int{{0, 1}, {1, 2}}, "pit", "bin", "spout"), []int{0, 1}, []int{2}, 1},
		{"a square", square, []int{0, 1}, []int{4, 5}, 2}, {"a cross", cross, []int{0, 1}, []int{6, 7}, 2},
		{"without conveyors", direct, []int{0, 1}, []int{2, 3}, 2}, {"a chain", chain, []int{0}, []int{63}, 1},
	} {
		checkBottleneck(t, row.what, row.p, row.sources, row.sinks, row.most)
	}
	cut, e := path.Cut(plantOf([][2]int{{0, 1}}, "pit", "bin"), []int{0}, []int{1})
	expect(t, "a cut of ends", []any{len(cut), e}, []any{1, api.OK})
	for _, machines := range [][]int{{3, 6}, {6, 3, 6}, {0, 4}, {5, 7}, {1, 8}, {0, 1, 2, 3, 4, 5, 6, 7, 8}} {
		expect(t, fmt.Sprint("CheckCut ", machines), path.CheckCut(example(), []int{0, 4}, []int{5, 7}, machines), api.OK)
	}
	for _, machines := range [][]int{nil, {3}, {6}, {7, 6, 8}, {4, 8, 6, 7}, {5, 8}} {
		expect(t, fmt.Sprint("CheckCut ", machines), path.CheckCut(example(), []int{0, 4}, []int{5, 7}, machines), api.ErrProof)
	}
	expect(t, "CheckCut without sinks", path.CheckCut(example(), []int{0}, nil, nil), api.OK)
	expect(t, "CheckDisjoint without paths", path.CheckDisjoint(example(), nil, nil, nil), api.OK)
}

// checkBottleneck checks paths without a common machine, and a cut, of which there are so many.
func checkBottleneck(t *testing.T, what string, p api.Plant, sources, sinks []int, want int) {
	t.Helper()
	most, e := path.Most(p, sources, sinks)
	expect(t, what, []any{most, e}, []any{want, api.OK})
	paths, e := path.Disjoint(p, sources, sinks)
	expect(t, what, []any{len(paths), e}, []any{want, api.OK})
	for i, l := range paths {
		isRight := isDefinedPath(p, l) && slices.Contains(sources, l[0]) && slices.Contains(sinks, l[len(l)-1])
		for _, other := range paths[:i] {
			isRight = isRight && !haveCommon(l, other)
		}
		expect(t, fmt.Sprint(what, paths), isRight, true)
	}
	expect(t, what, path.CheckDisjoint(p, sources, sinks, paths), api.OK)
	cut, e := path.Cut(p, sources, sinks)
	expect(t, what, []any{len(cut), e}, []any{want, api.OK})
	expect(t, fmt.Sprint(what, cut), slices.IsSorted(cut) && len(slices.Compact(slices.Clone(cut))) == len(cut), true)
	expect(t, fmt.Sprint(what, cut), isClosed(p, sources, sinks, cut), true)
	expect(t, what, path.CheckCut(p, sources, sinks, cut), api.OK)
	for i := range cut {
		fewer := slices.Delete(slices.Clone(cut), i, i+1)
		expect(t, fmt.Sprint(what, fewer), path.CheckCut(p, sources, sinks, fewer), api.ErrProof)
	}
}

// isClosed reports whether nothing reaches sinks from sources without the machines of a cut, in rounds over all arcs.
func isClosed(p api.Plant, sources, sinks, cut []int) bool {
	isReached := make([]bool, len(p.Machines))
	for _, machine := range sources {
		isReached[machine] = !slices.Contains(cut, machine)
	}
	for range p.Machines {
		for _, arc := range p.Arcs {
			isOnward := !isEnd(p, arc[1]) || slices.Contains(sinks, arc[1])
			isOnward = isOnward && (!isEnd(p, arc[0]) || slices.Contains(sources, arc[0]))
			if isReached[arc[0]] && isOnward && !slices.Contains(cut, arc[1]) {
				isReached[arc[1]] = true
			}
		}
	}
	return !slices.ContainsFunc(sinks, func(machine int) bool { return isReached[machine] })
}

// randomEnds returns sources and sinks in a plant.
func randomEnds(r *rand.Rand, p api.Plant) (sources, sinks []int) {
	for _, machine := range r.Perm(len(p.Machines)) {
		isSource := isOneOf(p, machine, "pit") || isOneOf(p, machine, "bin") && r.Intn(2) == 0
		switch {
		case !isEnd(p, machine) || r.Intn(8) == 0:
		case isSource:
			sources = append(sources, machine)
		default:
			sinks = append(sinks, machine)
		}
	}
	return sources, sinks
}

// TestBottlenecksOfSmallPlants checks the numbers of paths and of machines of cuts, and all sets of machines as cuts.
func TestBottlenecksOfSmallPlants(t *testing.T) {
	r := rand.New(rand.NewSource(54))
	var count [5]int
	for range 800 {
		p := randomPlant(r, 4+r.Intn(6), 12+r.Intn(24))
		sources, sinks := randomEnds(r, p)
		what := fmt.Sprint("bottlenecks of ", p, sources, sinks)
		var paths [][]int
		for _, l := range allPaths(p) {
			if slices.Contains(sources, l[0]) && slices.Contains(sinks, l[len(l)-1]) {
				paths = append(paths, l)
			}
		}
		most := mostDisjoint(paths, nil)
		count[most]++
		checkBottleneck(t, what, p, sources, sinks, most)
		least := len(p.Machines)
		for set := range uint(1) << len(p.Machines) {
			var machines []int
			for machine := range p.Machines {
				if set>>machine&1 == 1 {
					machines = append(machines, machine)
				}
			}
			isCut := !slices.ContainsFunc(paths, func(l []int) bool { return !haveCommon(l, machines) })
			expect(t, fmt.Sprint(what, machines), path.CheckCut(p, sources, sinks, machines) == api.OK, isCut)
			if isCut {
				least = min(least, bits.OnesCount(set))
			}
		}
		expect(t, what, least, most)
	}
	if count[1] < 100 || count[2] < 30 || count[3] < 2 {
		t.Errorf("numbers of paths: %v", count)
	}
}

// mostDisjoint returns how many of some paths, at most, have no machine in common with each other or with used ones.
func mostDisjoint(paths [][]int, used []int) int {
	most := 0
	for i, l := range paths {
		if !haveCommon(l, used) {
			most = max(most, 1+mostDisjoint(paths[i+1:], slices.Concat(used, l)))
		}
	}
	return most
}

// TestBottlenecksOfGreatPlants checks that there are as many paths as the cut has machines: each proves the other one.
func TestBottlenecksOfGreatPlants(t *testing.T) {
	r := rand.New(rand.NewSource(55))
	sum := 0
	for i := range 150 {
		p := randomPlant(r, api.MaxMachines, 60+r.Intn(api.MaxArcs-60))
		if i%3 == 0 {
			p = grid(r)
		}
		sources, sinks := randomEnds(r, p)
		most := ok[int](t, "Most")(path.Most(p, sources, sinks))
		sum += most
		checkBottleneck(t, fmt.Sprint("bottlenecks of ", p, sources, sinks), p, sources, sinks, most)
	}
	if sum < 500 {
		t.Errorf("only %d paths", sum)
	}
}

// grid returns a plant with rows of conveyors between pits and spouts, in random order, and arcs between random neighbours.
func grid(r *rand.Rand) api.Plant {
	names, p := r.Perm(api.MaxMachines), api.Plant{Machines: make([]api.Machine, api.MaxMachines)}
	for place, name := range names {
		kind := "belt"
		if place < 8 {
			kind = "pit"
		}
		if place >= 56 {
			kind = "spout"
		}
		p.Machines[name].Kind = kind
		for shift := -1; shift <= 1 && place < 56; shift++ {
			next := place + 8 + shift
			if next/8 == place/8+1 && r.Intn(3) > 0 {
				p.Arcs = append(p.Arcs, [2]int{name, names[next]})
			}
			if next/8 == place/8+1 && place >= 8 && next < 56 && r.Intn(3) == 0 {
				p.Arcs = append(p.Arcs, [2]int{names[next], name})
			}
		}
	}
	p.Arcs = p.Arcs[:min(len(p.Arcs), api.MaxArcs)]
	return p
}
