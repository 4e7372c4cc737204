package path_test

import (
	"fmt"
	"math"
	"math/rand"
	"slices"
	"testing"

	"bushel/api"
	"bushel/path"
)

// P5.5 and P5: what follows from the promises of paths, states and schedules.

// walk does random operations on a plant from its empty state on, and shows each state with the one before it.
func walk(t *testing.T, r *rand.Rand, p api.Plant, paths [][]int, steps int, see func(name string, before, after []api.Status)) {
	t.Helper()
	state := ok[[]api.Status](t, "Empty")(path.Empty(p))
	for range steps {
		l, machine := paths[r.Intn(len(paths))], r.Intn(len(p.Machines))
		name := []string{"Start", "Start", "Start", "Stop", "Clean", "Fault", "Resume"}[r.Intn(7)]
		results, e := calls()[name](args{plant: p, state: state, path: l, machine: machine, grain: []string{"wheat", "rye"}[r.Intn(2)]})
		after := results[0].([]api.Status)
		if e != api.OK {
			expectList(t, name+" beside an error", after, nil)
			continue
		}
		see(name, state, after)
		state = after
	}
}

// TestNoTwoGrainsMeet checks states behind many operations.
func TestNoTwoGrainsMeet(t *testing.T) {
	r := rand.New(rand.NewSource(61))
	done, both := map[string]int{}, 0
	for range 400 {
		p := randomPlant(r, 6+r.Intn(8), 40)
		if r.Intn(10) == 0 {
			p = example()
		}
		paths := allPaths(p)
		if len(paths) == 0 {
			continue
		}
		walk(t, r, p, paths, 200, func(name string, before, after []api.Status) {
			done[name]++
			what := fmt.Sprint(name, p, before, after)
			expect(t, what, []any{path.CheckState(p, after), isDefinedState(p, after)}, []any{api.OK, true})
			for machine := range after {
				isKept := after[machine].Grain == before[machine].Grain || before[machine].Grain == "" || after[machine].Grain == ""
				expect(t, what, isKept, true)
			}
			var set [][]int
			for _, l := range paths {
				if isSet(after, l) {
					set = append(set, l)
				}
			}
			for i, l := range set {
				for _, other := range set[:i] {
					both++
					expect(t, what, haveCommon(l, other), false)
				}
			}
		})
	}
	for _, name := range []string{"Start", "Stop", "Clean", "Fault", "Resume"} {
		if done[name] < 200 {
			t.Errorf("%s: only %d without an error", name, done[name])
		}
	}
	if both < 100 {
		t.Errorf("only %d pairs of paths that are set at once", both)
	}
}

// TestRunningEmptyLeavesConveyorsClean checks a path that is started and runs empty, in states behind many operations.
func TestRunningEmptyLeavesConveyorsClean(t *testing.T) {
	r := rand.New(rand.NewSource(62))
	done := 0
	for range 250 {
		p := randomPlant(r, 6+r.Intn(6), 40)
		paths := allPaths(p)
		if len(paths) == 0 {
			continue
		}
		walk(t, r, p, paths, 60, func(_ string, _, state []api.Status) {
			for _, l := range paths {
				started, e := path.Start(p, state, l, "wheat")
				if e != api.OK {
					continue
				}
				done++
				want := slices.Clone(state)
				for _, machine := range l[1 : len(l)-1] {
					want[machine].Grain = ""
				}
				if last := l[len(l)-1]; keeps(p, last) {
					want[last].Grain = "wheat"
				}
				clean, e := path.Clean(p, started, l)
				expect(t, fmt.Sprint("Clean ", p, started, l), []any{clean, e}, []any{want, api.OK})
			}
		})
	}
	if done < 1000 {
		t.Errorf("only %d paths", done)
	}
}

// TestNoTaskStartsLaterThanNecessary checks that with an earlier start a task meets one before it.
func TestNoTaskStartsLaterThanNecessary(t *testing.T) {
	r := rand.New(rand.NewSource(63))
	late := 0
	for range 300 {
		p, tasks := randomTasks(r, 7)
		starts := ok[[]int](t, "Schedule")(path.Schedule(p, tasks))
		for i, start := range starts {
			for earlier := range start {
				late++
				l := append(slices.Clone(starts[:i]), earlier)
				expect(t, fmt.Sprint("CheckSchedule ", p, tasks[:i+1], l), path.CheckSchedule(p, tasks[:i+1], l), api.ErrGrain)
			}
		}
	}
	if late < 1000 {
		t.Errorf("only %d starts", late)
	}
}

// TestNoScheduleIsShorterThanBound checks all schedules of tasks that begin early.
func TestNoScheduleIsShorterThanBound(t *testing.T) {
	r := rand.New(rand.NewSource(64))
	reached := 0
	for range 60 {
		p, tasks := randomTasks(r, 3)
		bound, isReached := ok[int](t, "Bound")(path.Bound(p, tasks)), false
		for number := range 12 * 12 * 12 {
			starts := []int{number % 12, number / 12 % 12, number / 144}[:len(tasks)]
			length, e := path.Length(p, tasks, starts)
			if e == api.OK {
				expect(t, fmt.Sprint("Length ", p, tasks, starts), length >= bound, true)
				isReached = isReached || length == bound
			}
		}
		if isReached {
			reached++
		}
	}
	if reached < 30 {
		t.Errorf("only %d bounds are reached", reached)
	}
}

// TestArgumentsStayAsTheyAre checks that no function changes its arguments, and that each one returns the same results again.
func TestArgumentsStayAsTheyAre(t *testing.T) {
	for name, f := range calls() {
		a := goodArgs()
		if name == "Start" {
			a.state = idle(a.plant)
		}
		before := copyOf(a)
		first, e := f(a)
		expect(t, name, e, api.OK)
		expect(t, name+": the arguments", a, before)
		second, e := f(a)
		expect(t, name+" again", []any{second, e}, []any{first, api.OK})
	}
}

// TestResultsShareNoMemory checks that neither arguments nor other results change with a result, nor the room behind arguments.
func TestResultsShareNoMemory(t *testing.T) {
	for name, f := range calls() {
		a := goodArgs()
		if name == "Start" {
			a.state = idle(a.plant)
		}
		a.state, a.plant.Arcs, a.plant.Machines = roomy(a.state), roomy(a.plant.Arcs), roomy(a.plant.Machines)
		numbers := []*[]int{&a.path, &a.blocked, &a.sources, &a.sinks, &a.machines, &a.starts}
		for _, l := range numbers {
			*l = roomy(*l)
		}
		before := copyOf(a)
		first, _ := f(a)
		second, _ := f(a)
		for _, x := range first {
			spoil(x)
		}
		third, _ := f(before)
		expect(t, name+": the arguments", a, before)
		expect(t, name+": another result", second, third)
		isEmpty := isRoomEmpty(a.state) && isRoomEmpty(a.plant.Arcs) && isRoomEmpty(a.plant.Machines)
		for _, l := range numbers {
			isEmpty = isEmpty && isRoomEmpty(*l)
		}
		expect(t, name+": the room behind arguments", isEmpty, true)
	}
	paths, _ := path.Disjoint(example(), []int{0, 4}, []int{5, 7})
	_ = append(paths[0], 99)
	second := slices.Clone(paths[1])
	spoil(paths[0])
	expect(t, "another path of a result", paths[1], second)
}

// roomy returns a copy of a list with room behind it.
func roomy[T any](l []T) []T { return append(make([]T, 0, len(l)+99), l...) }

// isRoomEmpty reports whether nothing is in the room behind a list.
func isRoomEmpty[T comparable](l []T) bool {
	var zero T
	return !slices.ContainsFunc(l[len(l):cap(l)], func(x T) bool { return x != zero })
}

// spoil overwrites all numbers and statuses of a result.
func spoil(x any) {
	switch x := x.(type) {
	case []int:
		for i := range x {
			x[i] = -99
		}
	case [][]int:
		for _, l := range x {
			spoil(l)
		}
	case []api.Status:
		for i := range x {
			x[i] = api.Status{Runs: true, Feeds: -99, Grain: "spoilt"}
		}
	}
}

// TestAllArguments checks that all functions return for arguments of any form.
func TestAllArguments(t *testing.T) {
	r := rand.New(rand.NewSource(65))
	codes := map[api.Errno]int{}
	for range 3000 {
		a := goodArgs()
		if r.Intn(3) == 0 {
			a.plant = randomPlant(r, 1+r.Intn(9), 20)
		}
		for range r.Intn(3) {
			disturb(r, &a)
		}
		for name, f := range calls() {
			_, e := f(a)
			codes[e]++
			if e != api.OK {
				expectError(t, name, name, a, e)
			}
		}
	}
	if len(codes) < 10 {
		t.Errorf("only these errors: %v", codes)
	}
}

// disturb changes arguments at random places.
func disturb(r *rand.Rand, a *args) {
	number := []int{math.MinInt, -2, -1, 0, 1, 4, 7, 8, 9, 63, 64, math.MaxInt}[r.Intn(12)]
	grain := []string{"", "wheat", "?"}[r.Intn(3)]
	for _, l := range [][]int{a.path, a.blocked, a.sources, a.sinks, a.machines, a.starts, a.tasks[0].Path, a.paths[0]} {
		disturbOne(r, l, number)
	}
	disturbOne(r, a.state, api.Status{Runs: r.Intn(2) == 0, Feeds: number, Grain: grain})
	disturbOne(r, a.tasks, api.Task{Path: []int{number, number}, Grain: grain, Run: number})
	disturbOne(r, a.plant.Arcs, [2]int{number, r.Intn(9)})
	disturbOne(r, a.plant.Machines, api.Machine{Kind: "belt", Time: number})
	switch r.Intn(8) {
	case 0:
		a.machine, a.from, a.grain = number, number, grain
	case 1:
		a.to = number
	case 2:
		a.state = a.state[:r.Intn(len(a.state)+1)]
	case 3:
		a.path = nil
	}
}

// disturbOne seldom changes an element of a list.
func disturbOne[T any](r *rand.Rand, l []T, x T) {
	if len(l) > 0 && r.Intn(10) == 0 {
		l[r.Intn(len(l))] = x
	}
}
