package path_test

import (
	"fmt"
	"math/rand"
	"reflect"
	"slices"
	"testing"

	"bushel/api"
	"bushel/path"
)

// expect reports a result that is not the expected one.
func expect(t *testing.T, what string, got, want any) {
	t.Helper()
	if !reflect.DeepEqual(got, want) {
		t.Errorf("%.400s: got %.300s, want %.300s", what, fmt.Sprint(got), fmt.Sprint(want))
	}
}

// expectList reports a list that is not the expected one; nil and empty lists are equal.
func expectList[T any](t *testing.T, what string, got, want []T) {
	t.Helper()
	if len(got) > 0 || len(want) > 0 {
		expect(t, what, got, want)
	}
}

// ok returns a result that has no error.
func ok[T any](t *testing.T, what string) func(T, api.Errno) T {
	return func(x T, e api.Errno) T {
		t.Helper()
		if e != api.OK {
			t.Fatalf("%.400s: error %d", what, e)
		}
		return x
	}
}

// plantOf returns a plant with machines of these kinds, all with the Time 1.
func plantOf(arcs [][2]int, kinds ...string) api.Plant {
	p := api.Plant{Arcs: arcs}
	for _, kind := range kinds {
		p.Machines = append(p.Machines, api.Machine{Kind: kind, Time: 1})
	}
	return p
}

// example is the plant of the document's examples.
func example() api.Plant {
	p := plantOf([][2]int{{0, 1}, {1, 2}, {2, 3}, {3, 4}, {3, 5}, {4, 8}, {8, 6}, {5, 6}, {6, 7}, {3, 6}},
		"pit", "belt", "leg", "distributor", "bin", "bin", "belt", "spout", "gate")
	for machine, time := range []int{0, 20, 30, 5, 0, 0, 40, 0, 2} {
		p.Machines[machine].Time = time
	}
	return p
}

// chainOf returns the greatest plant whose machines are all in one path, and this path.
func chainOf(time int) (api.Plant, []int) {
	p := api.Plant{}
	var l []int
	for i := range api.MaxMachines {
		kind := []string{"belt", "leg", "gate", "distributor", "scale"}[i%5]
		if i == 0 {
			kind = "pit"
		}
		if i == api.MaxMachines-1 {
			kind = "spout"
		}
		p.Machines = append(p.Machines, api.Machine{Kind: kind, Time: time})
		if i > 0 {
			p.Arcs = append(p.Arcs, [2]int{i - 1, i})
		}
		l = append(l, i)
	}
	return p, l
}

// isOneOf reports whether a machine is of one of some kinds.
func isOneOf(p api.Plant, machine int, kinds ...string) bool {
	return slices.Contains(kinds, p.Machines[machine].Kind)
}

// isEnd reports whether a machine is a pit, a bin or a spout.
func isEnd(p api.Plant, machine int) bool { return isOneOf(p, machine, "pit", "bin", "spout") }

// keeps reports whether a machine can have a grain.
func keeps(p api.Plant, machine int) bool { return !isOneOf(p, machine, "pit", "spout") }

// randomPlant returns a plant with so many machines.
func randomPlant(r *rand.Rand, machines, arcs int) api.Plant {
	kinds := []string{"pit", "bin", "bin", "spout", "belt", "leg", "gate", "distributor", "scale"}
	p := api.Plant{}
	for range machines {
		p.Machines = append(p.Machines, api.Machine{Kind: kinds[r.Intn(len(kinds))], Time: r.Intn(4)})
	}
	for range arcs {
		arc := [2]int{r.Intn(machines), r.Intn(machines)}
		if arc[0] == arc[1] || isOneOf(p, arc[0], "spout") || isOneOf(p, arc[1], "pit") || slices.Contains(p.Arcs, arc) {
			continue
		}
		p.Arcs = append(p.Arcs, arc)
	}
	return p
}

// isDefinedPath reports whether a list of machines is a path, word by word as the chapter defines it.
func isDefinedPath(p api.Plant, l []int) bool {
	if len(l) < 2 || !isOneOf(p, l[0], "pit", "bin") || !isOneOf(p, l[len(l)-1], "bin", "spout") {
		return false
	}
	for i := range l {
		if slices.Contains(l[:i], l[i]) || i > 0 && i < len(l)-1 && isEnd(p, l[i]) {
			return false
		}
		if i > 0 && !slices.Contains(p.Arcs, [2]int{l[i-1], l[i]}) {
			return false
		}
	}
	return true
}

// allPaths returns all paths of a plant.
func allPaths(p api.Plant) [][]int {
	var paths [][]int
	var extend func(l []int)
	extend = func(l []int) {
		if isDefinedPath(p, l) {
			paths = append(paths, slices.Clone(l))
		}
		for next := range p.Machines {
			if !slices.Contains(l, next) && slices.Contains(p.Arcs, [2]int{l[len(l)-1], next}) && (len(l) == 1 || !isEnd(p, l[len(l)-1])) {
				extend(append(l, next))
			}
		}
	}
	for machine := range p.Machines {
		extend([]int{machine})
	}
	return paths
}

// seconds returns the sum of the times of machines.
func seconds(p api.Plant, l []int) int {
	sum := 0
	for _, machine := range l {
		sum += p.Machines[machine].Time
	}
	return sum
}

// haveCommon reports whether two lists have a number in common.
func haveCommon(a, b []int) bool {
	return slices.ContainsFunc(a, func(x int) bool { return slices.Contains(b, x) })
}

// idle returns the state of a plant in which nothing runs, feeds, or has a grain.
func idle(p api.Plant) []api.Status {
	var state []api.Status
	for range p.Machines {
		state = append(state, api.Status{Feeds: -1})
	}
	return state
}

// inUse returns the example's state in which 0 1 2 3 4 runs with wheat.
func inUse() []api.Status {
	state := idle(example())
	state[0].Feeds = 1
	for machine := 1; machine <= 3; machine++ {
		state[machine] = api.Status{Runs: true, Feeds: machine + 1, Grain: "wheat"}
	}
	state[4].Grain = "wheat"
	return state
}

// args are arguments of all functions.
type args struct {
	plant    api.Plant
	path     []int
	from, to int
	blocked  []int
	sources  []int
	sinks    []int
	paths    [][]int
	machines []int
	state    []api.Status
	grain    string
	machine  int
	tasks    []api.Task
	starts   []int
}

// goodArgs returns arguments with which no function returns an error.
func goodArgs() args {
	return args{
		plant: example(), path: []int{0, 1, 2, 3, 4}, from: 0, to: 7, blocked: []int{8, 8},
		sources: []int{0, 4}, sinks: []int{5, 7}, paths: [][]int{{4, 8, 6, 7}, {0, 1, 2, 3, 5}}, machines: []int{6, 3, 3},
		state: inUse(), grain: "rye", machine: 2,
		tasks: exampleTasks(), starts: []int{0, 130},
	}
}

// exampleTasks are the two tasks of the document's examples.
func exampleTasks() []api.Task {
	return []api.Task{{Path: []int{0, 1, 2, 3, 4}, Grain: "wheat", Run: 100}, {Path: []int{0, 1, 2, 3, 5}, Grain: "rye", Run: 50}}
}

// call calls a function, and returns its results as a list and its error.
type call func(a args) ([]any, api.Errno)

// one makes a call of a function with one result beside its error.
func one[T any](f func(a args) (T, api.Errno)) call {
	return func(a args) ([]any, api.Errno) {
		x, e := f(a)
		return []any{x}, e
	}
}

// alone makes a call of a function that returns an error alone.
func alone(f func(a args) api.Errno) call {
	return func(a args) ([]any, api.Errno) { return nil, f(a) }
}

// calls has a call of each function of the package.
func calls() map[string]call {
	return map[string]call{
		"CheckPlant":    alone(func(a args) api.Errno { return path.CheckPlant(a.plant) }),
		"IsPath":        one(func(a args) (bool, api.Errno) { return path.IsPath(a.plant, a.path) }),
		"Time":          one(func(a args) (int, api.Errno) { return path.Time(a.plant, a.path) }),
		"Route":         one(func(a args) ([]int, api.Errno) { return path.Route(a.plant, a.from, a.to, a.blocked) }),
		"Most":          one(func(a args) (int, api.Errno) { return path.Most(a.plant, a.sources, a.sinks) }),
		"Disjoint":      one(func(a args) ([][]int, api.Errno) { return path.Disjoint(a.plant, a.sources, a.sinks) }),
		"CheckDisjoint": alone(func(a args) api.Errno { return path.CheckDisjoint(a.plant, a.sources, a.sinks, a.paths) }),
		"Cut":           one(func(a args) ([]int, api.Errno) { return path.Cut(a.plant, a.sources, a.sinks) }),
		"CheckCut":      alone(func(a args) api.Errno { return path.CheckCut(a.plant, a.sources, a.sinks, a.machines) }),
		"CheckState":    alone(func(a args) api.Errno { return path.CheckState(a.plant, a.state) }),
		"Empty":         one(func(a args) ([]api.Status, api.Errno) { return path.Empty(a.plant) }),
		"Start":         one(func(a args) ([]api.Status, api.Errno) { return path.Start(a.plant, a.state, a.path, a.grain) }),
		"Stop":          one(func(a args) ([]api.Status, api.Errno) { return path.Stop(a.plant, a.state, a.path) }),
		"Clean":         one(func(a args) ([]api.Status, api.Errno) { return path.Clean(a.plant, a.state, a.path) }),
		"Upstream":      one(func(a args) ([]int, api.Errno) { return path.Upstream(a.plant, a.state, a.machine) }),
		"Fault":         one(func(a args) ([]api.Status, api.Errno) { return path.Fault(a.plant, a.state, a.machine) }),
		"Resume":        one(func(a args) ([]api.Status, api.Errno) { return path.Resume(a.plant, a.state, a.path) }),
		"CheckTasks":    alone(func(a args) api.Errno { return path.CheckTasks(a.plant, a.tasks) }),
		"Schedule":      one(func(a args) ([]int, api.Errno) { return path.Schedule(a.plant, a.tasks) }),
		"CheckSchedule": alone(func(a args) api.Errno { return path.CheckSchedule(a.plant, a.tasks, a.starts) }),
		"Length":        one(func(a args) (int, api.Errno) { return path.Length(a.plant, a.tasks, a.starts) }),
		"Bound":         one(func(a args) (int, api.Errno) { return path.Bound(a.plant, a.tasks) }),
		"Best":          one(func(a args) ([]int, api.Errno) { return path.Best(a.plant, a.tasks) }),
	}
}

// fault is a change of arguments that causes an error.
type fault struct {
	what   string
	e      api.Errno
	change func(a *args)
}

// expectErrors checks that a function returns the error of each fault, alone and together with all those behind it, and nothing beside it.
func expectErrors(t *testing.T, name string, good args, faults []fault) {
	t.Helper()
	_, e := calls()[name](good)
	expect(t, name+" of good arguments", e, api.OK)
	for i, f := range faults {
		a := copyOf(good)
		f.change(&a)
		expectError(t, name+": "+f.what, name, a, f.e)
		a = copyOf(good)
		for _, later := range slices.Backward(faults[i:]) {
			later.change(&a)
		}
		expectError(t, name+": "+f.what+" and more", name, a, f.e)
	}
}

// expectError checks that a function returns an error, and nothing beside it.
func expectError(t *testing.T, what, name string, a args, want api.Errno) {
	t.Helper()
	results, e := calls()[name](a)
	expect(t, what, e, want)
	for _, x := range results {
		if v := reflect.ValueOf(x); !v.IsZero() && (v.Kind() != reflect.Slice || v.Len() > 0) {
			t.Errorf("%s: %v beside an error", what, x)
		}
	}
}

// copyOf returns arguments that share no memory with these ones.
func copyOf(a args) args {
	a.plant = api.Plant{Machines: slices.Clone(a.plant.Machines), Arcs: slices.Clone(a.plant.Arcs)}
	for _, l := range []*[]int{&a.path, &a.blocked, &a.sources, &a.sinks, &a.machines, &a.starts} {
		*l = slices.Clone(*l)
	}
	a.state, a.paths, a.tasks = slices.Clone(a.state), slices.Clone(a.paths), slices.Clone(a.tasks)
	for i := range a.paths {
		a.paths[i] = slices.Clone(a.paths[i])
	}
	for i := range a.tasks {
		a.tasks[i].Path = slices.Clone(a.tasks[i].Path)
	}
	return a
}

// plantFault is a plant that has an error.
func plantFault() fault {
	return fault{"a plant with an error", api.ErrKind, func(a *args) { a.plant.Machines[3].Kind = "crane" }}
}

// pathFaults are paths with an error.
func pathFaults() []fault {
	return []fault{
		{"an unknown machine in a path", api.ErrUnknown, func(a *args) { a.path = []int{0, 0, 9} }},
		{"a list that is no path", api.ErrForm, func(a *args) { a.path = []int{0, 1, 2} }},
	}
}
