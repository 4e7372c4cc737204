package path_test

import (
	"fmt"
	"math"
	"math/rand"
	"slices"
	"strings"
	"testing"

	"bushel/api"
	"bushel/path"
)

// P5.4: tasks and schedules.

// taskFaults are the errors of tasks in their order, for the example's tasks.
func taskFaults() []fault {
	return []fault{
		plantFault(),
		{"too many tasks", api.ErrMany, func(a *args) { a.tasks = make([]api.Task, api.MaxTasks+1) }},
		{"an unknown machine in a task", api.ErrUnknown, func(a *args) { a.tasks[0].Path = []int{0, 9} }},
		{"a task without a path", api.ErrForm, func(a *args) { a.tasks[0].Path = []int{0, 1} }},
		{"a task without a grain", api.ErrName, func(a *args) { a.tasks[0].Grain = "" }},
		{"a task without a second", api.ErrRange, func(a *args) { a.tasks[0].Run = 0 }},
		{"a second task without a path", api.ErrForm, func(a *args) { a.tasks[1].Path = nil }},
		{"a second task with a bad grain", api.ErrName, func(a *args) { a.tasks[1].Grain = strings.Repeat("x", api.MaxName+1) }},
		{"a second task that is too long", api.ErrRange, func(a *args) { a.tasks[1].Run = api.MaxSeconds + 1 }},
		{"a second task that is far too short", api.ErrRange, func(a *args) { a.tasks[1].Run = math.MinInt }},
	}
}

func TestErrorsOfTasks(t *testing.T) {
	good := goodArgs()
	for _, name := range []string{"CheckTasks", "Schedule", "Bound", "Best"} {
		expectErrors(t, name, good, taskFaults())
	}
	starts := func(l ...int) func(a *args) { return func(a *args) { a.starts = l } }
	for _, name := range []string{"CheckSchedule", "Length"} {
		expectErrors(t, name, good, append(taskFaults(), []fault{
			{"too few starts", api.ErrShape, starts(-1)},
			{"too many starts", api.ErrShape, starts(0, 0, -1)},
			{"a start below 0", api.ErrRange, starts(0, -1)},
			{"a start that is too great", api.ErrRange, starts(api.MaxMass+1, api.MaxMass+1)},
			{"the greatest start", api.ErrRange, starts(0, math.MaxInt)},
			{"the same start", api.ErrGrain, starts(0, 0)},
			{"a start that is too early", api.ErrGrain, starts(0, 129)},
			{"a start that is not early enough", api.ErrGrain, starts(79, 0)},
		}...))
	}
	good.tasks = slices.Repeat(exampleTasks(), 3)
	expectErrors(t, "Best", good, append(taskFaults(), fault{"too many orders", api.ErrLimit, func(a *args) { a.tasks = append(a.tasks, a.tasks[0]) }}))
	good.tasks = slices.Repeat(exampleTasks(), api.MaxTasks/2)
	expectErrors(t, "CheckTasks", good, taskFaults()[:1])
}

func TestExamplesOfSchedules(t *testing.T) {
	p, tasks := example(), exampleTasks()
	starts, e := path.Schedule(p, tasks)
	expect(t, "Schedule", []any{starts, e}, []any{[]int{0, 130}, api.OK})
	length, e := path.Length(p, tasks, starts)
	expect(t, "Length", []any{length, e}, []any{235, api.OK})
	bound, e := path.Bound(p, tasks)
	expect(t, "Bound", []any{bound, e}, []any{235, api.OK})
	expect(t, "CheckSchedule", path.CheckSchedule(p, tasks, []int{80, 0}), api.OK)
	tasks = append(tasks, api.Task{Path: []int{4, 8, 6, 7}, Grain: "wheat", Run: 60})
	starts, e = path.Schedule(p, tasks)
	expect(t, "Schedule behind a bin", []any{starts, e}, []any{[]int{0, 130, 155}, api.OK})
	expect(t, "CheckSchedule before a bin is free", path.CheckSchedule(p, tasks, []int{0, 130, 154}), api.ErrGrain)
	// The bin 4 is free from the second 60 on, before the grain comes to it at 85.
	starts, e = path.Schedule(p, []api.Task{tasks[1], tasks[0], tasks[2]})
	expect(t, "Schedule in another order", []any{starts, e}, []any{[]int{0, 80, 0}, api.OK})
	// So the last task ends at 102, and the others at 105 and 235, which is the bound; if the task 0 is the first one, the last one ends at 257.
	best, e := path.Best(p, tasks)
	expect(t, "Best", []any{best, e}, []any{[]int{1, 0, 2}, api.OK})
}

func TestSmallSchedules(t *testing.T) {
	p := example()
	for what, f := range map[string]func() (int, api.Errno){
		"Length": func() (int, api.Errno) { return path.Length(p, nil, nil) },
		"Bound":  func() (int, api.Errno) { return path.Bound(p, nil) },
	} {
		n, e := f()
		expect(t, what+" of nothing", []any{n, e}, []any{0, api.OK})
	}
	for what, f := range map[string]func(api.Plant, []api.Task) ([]int, api.Errno){"Schedule": path.Schedule, "Best": path.Best} {
		l, e := f(p, nil)
		expect(t, what+" of nothing", []any{len(l), e}, []any{0, api.OK})
		l, e = f(p, exampleTasks()[:1])
		expect(t, what+" of one task", []any{l, e}, []any{[]int{0}, api.OK})
	}
	expect(t, "CheckSchedule of nothing", path.CheckSchedule(p, nil, []int{}), api.OK)
	one := []api.Task{{Path: []int{5, 6, 7}, Grain: "rye", Run: 1}}
	length, e := path.Length(p, one, []int{api.MaxMass})
	expect(t, "Length of a late task", []any{length, e}, []any{api.MaxMass + 41, api.OK})
	// Ends have no time of their own here: the second task can follow at once there, but not on the belt.
	two := slices.Repeat(one, 2)
	starts, e := path.Schedule(p, two)
	expect(t, "Schedule of two tasks", []any{starts, e}, []any{[]int{0, 41}, api.OK})
	bins := plantOf([][2]int{{0, 1}}, "bin", "bin")
	bins.Machines[0].Time = 7
	starts, e = path.Schedule(bins, slices.Repeat([]api.Task{{Path: []int{0, 1}, Grain: "x", Run: 2}}, 3))
	expect(t, "Schedule of ends with times", []any{starts, e}, []any{[]int{0, 9, 18}, api.OK})
	// Two tasks with the same grain meet as others do; those without a common machine do not.
	apart := []api.Task{{Path: []int{0, 1, 2, 3, 5}, Grain: "x", Run: 9}, {Path: []int{4, 8, 6, 7}, Grain: "y", Run: 9}}
	starts, e = path.Schedule(p, apart)
	expect(t, "Schedule of tasks without a common machine", []any{starts, e}, []any{[]int{0, 0}, api.OK})
	expect(t, "CheckSchedule of tasks with the same grain", path.CheckSchedule(p, two, []int{0, 40}), api.ErrGrain)
}

// TestGapsOfSchedules checks that a task is put between those before it if there is room.
func TestGapsOfSchedules(t *testing.T) {
	p := plantOf([][2]int{{0, 1}, {1, 2}, {1, 3}, {0, 4}, {4, 5}, {5, 2}, {5, 1}}, "bin", "belt", "spout", "spout", "leg", "leg")
	p.Machines[4].Time, p.Machines[5].Time = 20, 20
	long := api.Task{Path: []int{0, 4, 5, 1, 3}, Grain: "x", Run: 5}
	short := api.Task{Path: []int{0, 1, 2}, Grain: "y", Run: 5}
	starts, e := path.Schedule(p, []api.Task{long, short})
	expect(t, "Schedule of a task that overtakes", []any{starts, e}, []any{[]int{0, 6}, api.OK})
	// The belt is busy with the long task from 41 to 46.
	starts, e = path.Schedule(p, []api.Task{long, short, short, short, short, short, short, short})
	expect(t, "Schedule of tasks that fill a gap", []any{starts, e}, []any{[]int{0, 6, 12, 18, 24, 30, 46, 52}, api.OK})
}

// busySeconds returns all machines and seconds in which a task with a start is busy.
func busySeconds(p api.Plant, task api.Task, start int) map[[2]int]bool {
	busy := map[[2]int]bool{}
	for place, machine := range task.Path {
		begin := start + seconds(p, task.Path[:place])
		for second := begin; second <= begin+task.Run+p.Machines[machine].Time-1; second++ {
			busy[[2]int{machine, second}] = true
		}
	}
	return busy
}

// meet reports whether two tasks with their starts meet.
func meet(p api.Plant, a, b api.Task, start, other int) bool {
	busy := busySeconds(p, a, start)
	for at := range busySeconds(p, b, other) {
		if busy[at] {
			return true
		}
	}
	return false
}

// randomTasks returns tasks of a small plant that has paths; there may be none.
func randomTasks(r *rand.Rand, most int) (api.Plant, []api.Task) {
	for {
		p := randomPlant(r, 4+r.Intn(5), 24)
		paths := allPaths(p)
		if len(paths) == 0 {
			continue
		}
		var tasks []api.Task
		for range r.Intn(most + 1) {
			tasks = append(tasks, api.Task{Path: paths[r.Intn(len(paths))], Grain: []string{"wheat", "rye"}[r.Intn(2)], Run: 1 + r.Intn(5)})
		}
		return p, tasks
	}
}

// expectedStarts returns the starts of Schedule, which are looked for one after another.
func expectedStarts(p api.Plant, tasks []api.Task) []int {
	var starts []int
	for i, task := range tasks {
		start := 0
		for k := 0; k < i; k++ {
			if meet(p, task, tasks[k], start, starts[k]) {
				start++
				k = -1
			}
		}
		starts = append(starts, start)
	}
	return starts
}

// expectedLength returns the Length of a schedule.
func expectedLength(p api.Plant, tasks []api.Task, starts []int) int {
	length := 0
	for i, task := range tasks {
		length = max(length, starts[i]+task.Run+seconds(p, task.Path))
	}
	return length
}

// expectedBound returns the Bound of tasks.
func expectedBound(p api.Plant, tasks []api.Task) int {
	bound := 0
	for machine := range p.Machines {
		var aheads, behinds []int
		sum := 0
		for _, task := range tasks {
			if place := slices.Index(task.Path, machine); place >= 0 {
				aheads, behinds = append(aheads, seconds(p, task.Path[:place])), append(behinds, seconds(p, task.Path[place+1:]))
				sum += task.Run + p.Machines[machine].Time
			}
		}
		if len(aheads) > 0 {
			bound = max(bound, slices.Min(aheads)+sum+slices.Min(behinds))
		}
	}
	return bound
}

// TestSchedulesBySeconds checks schedules against the seconds in which machines are busy.
func TestSchedulesBySeconds(t *testing.T) {
	r := rand.New(rand.NewSource(58))
	met := 0
	for range 1500 {
		p, tasks := randomTasks(r, 5)
		what := fmt.Sprint("a schedule of ", p, tasks)
		starts, e := path.Schedule(p, tasks)
		expect(t, what, []any{e, path.CheckTasks(p, tasks), path.CheckSchedule(p, tasks, starts)}, []any{api.OK, api.OK, api.OK})
		expectList(t, what, starts, expectedStarts(p, tasks))
		length := expectedLength(p, tasks, starts)
		expect(t, what, ok[int](t, what)(path.Length(p, tasks, starts)), length)
		bound := ok[int](t, what)(path.Bound(p, tasks))
		expect(t, what, []any{bound, bound <= length}, []any{expectedBound(p, tasks), true})
		for i := range starts {
			starts[i] = r.Intn(25)
		}
		want := api.OK
		for i := range tasks {
			for k := range i {
				if meet(p, tasks[i], tasks[k], starts[i], starts[k]) {
					want = api.ErrGrain
				}
			}
		}
		length, e = path.Length(p, tasks, starts)
		expect(t, fmt.Sprint(what, starts), []any{path.CheckSchedule(p, tasks, starts), e}, []any{want, want})
		if want == api.OK {
			expect(t, fmt.Sprint(what, starts), []any{length, length >= bound}, []any{expectedLength(p, tasks, starts), true})
		} else {
			met++
		}
	}
	if met < 300 || met > 1200 {
		t.Errorf("%d schedules with tasks that meet", met)
	}
}

// orders returns all orders of so many numbers, in ascending order.
func orders(count int) [][]int {
	l := [][]int{nil}
	for range count {
		var longer [][]int
		for _, order := range l {
			for number := range count {
				if !slices.Contains(order, number) {
					longer = append(longer, append(slices.Clone(order), number))
				}
			}
		}
		l = longer
	}
	return l
}

// inOrder returns tasks in an order.
func inOrder(tasks []api.Task, order []int) []api.Task {
	var l []api.Task
	for _, number := range order {
		l = append(l, tasks[number])
	}
	return l
}

func TestBestAgainstAllOrders(t *testing.T) {
	r := rand.New(rand.NewSource(59))
	others, aboveBound := 0, 0
	for i := range 250 {
		p, tasks := randomTasks(r, 4)
		if i%50 == 0 {
			for len(tasks) < 6 {
				p, tasks = randomTasks(r, 6)
			}
		}
		least := math.MaxInt
		var want []int
		for _, order := range orders(len(tasks)) {
			l := inOrder(tasks, order)
			starts := ok[[]int](t, "Schedule")(path.Schedule(p, l))
			if length := expectedLength(p, l, starts); length < least {
				want, least = order, length
			}
		}
		what := fmt.Sprint("Best ", p, tasks)
		got, e := path.Best(p, tasks)
		expect(t, what, e, api.OK)
		expectList(t, what, got, want)
		if !slices.IsSorted(want) {
			others++
		}
		if least > expectedBound(p, tasks) {
			aboveBound++
		}
	}
	if others < 20 || aboveBound < 5 {
		t.Errorf("%d other orders, %d lengths above the bound", others, aboveBound)
	}
}

// TestGreatSchedules checks the greatest tasks.
func TestGreatSchedules(t *testing.T) {
	p, whole := chainOf(api.MaxSeconds)
	tasks := slices.Repeat([]api.Task{{Path: whole, Grain: "x", Run: api.MaxSeconds}}, api.MaxTasks)
	var want []int
	for i := range tasks {
		want = append(want, i*2*api.MaxSeconds)
	}
	starts, e := path.Schedule(p, tasks)
	expect(t, "Schedule", []any{starts, e}, []any{want, api.OK})
	length, e := path.Length(p, tasks, starts)
	expect(t, "Length", []any{length, e}, []any{(30 + 65) * api.MaxSeconds, api.OK})
	bound, e := path.Bound(p, tasks)
	expect(t, "Bound", []any{bound, e}, []any{(30 + 65) * api.MaxSeconds, api.OK})
	best, e := path.Best(p, tasks[:6])
	expect(t, "Best", []any{best, e}, []any{[]int{0, 1, 2, 3, 4, 5}, api.OK})
	// Ways that cross each other in all machines leave many gaps.
	r := rand.New(rand.NewSource(60))
	for range 10 {
		p, tasks = crossing(r)
		starts = ok[[]int](t, "Schedule")(path.Schedule(p, tasks))
		expect(t, "CheckSchedule", path.CheckSchedule(p, tasks, starts), api.OK)
		order := ok[[]int](t, "Best")(path.Best(p, tasks))
		l := inOrder(tasks, order)
		length = ok[int](t, "Length")(path.Length(p, l, ok[[]int](t, "Schedule")(path.Schedule(p, l))))
		expect(t, "Length", length <= expectedLength(p, tasks, starts), true)
	}
}

// crossing returns a plant, and three tasks each of which passes all its conveyors in an order of its own, with as many shorter ones.
func crossing(r *rand.Rand) (api.Plant, []api.Task) {
	p, chain := chainOf(0)
	p.Arcs = nil
	for i := range p.Machines {
		p.Machines[i].Time = r.Intn(1000)
	}
	var tasks []api.Task
	for range 3 {
		order := slices.Clone(chain)
		r.Shuffle(62, func(i, k int) { order[1+i], order[1+k] = order[1+k], order[1+i] })
		for i := range order[1:] {
			if arc := [2]int{order[i], order[i+1]}; !slices.Contains(p.Arcs, arc) {
				p.Arcs = append(p.Arcs, arc)
			}
		}
		tasks = append(tasks, api.Task{Path: order, Grain: "x", Run: 1 + r.Intn(1000)}, api.Task{Path: order, Grain: "y", Run: 1})
	}
	return p, tasks
}
