package path

import (
	"math"
	"slices"

	"bushel/api"
	"bushel/measure"
)

// mostOrdered is the greatest number of tasks of which all orders are tried.
const mostOrdered = 6

// course is a task as the machines of its path see it.
type course struct {
	length int                  // the seconds from its start until it has run empty
	busy   [api.MaxMachines]int // for how long each machine is busy with it, 0 for those that are not in its path
	ahead  [api.MaxMachines]int // after how many seconds this begins
}

// transfer is a course with its start.
type transfer struct {
	course
	start int
}

// CheckTasks returns the first error of tasks, or OK.
func CheckTasks(p api.Plant, tasks []api.Task) api.Errno {
	if e := CheckPlant(p); e != api.OK {
		return e
	}
	if len(tasks) > api.MaxTasks {
		return api.ErrMany
	}
	for _, t := range tasks {
		if e := checkTask(p, t); e != api.OK {
			return e
		}
	}
	return api.OK
}

// checkTask returns the first error of a task, or OK.
func checkTask(p api.Plant, t api.Task) api.Errno {
	if e := checkPath(p, t.Path); e != api.OK {
		return e
	}
	switch {
	case !measure.IsName(t.Grain):
		return api.ErrName
	case t.Run < 1 || t.Run > api.MaxSeconds:
		return api.ErrRange
	}
	return api.OK
}

// courseOf returns the course of a task.
func courseOf(p api.Plant, t api.Task) course {
	c := course{length: t.Run + timeOf(p, t.Path)}
	ahead := 0
	for _, machine := range t.Path {
		time := p.Machines[machine].Time
		c.busy[machine], c.ahead[machine] = t.Run+time, ahead
		ahead += time
	}
	return c
}

// coursesOf returns the courses of tasks, or their first error.
func coursesOf(p api.Plant, tasks []api.Task) ([]course, api.Errno) {
	if e := CheckTasks(p, tasks); e != api.OK {
		return nil, e
	}
	var courses []course
	for _, t := range tasks {
		courses = append(courses, courseOf(p, t))
	}
	return courses, api.OK
}

// wait returns 0 if a transfer meets none of some others, and else by how much later it has to start so that it comes behind one of them in a machine.
// With any shorter delay the two would still meet there.
func wait(t transfer, others []transfer) int {
	for _, other := range others {
		for machine, busy := range t.busy {
			if busy == 0 || other.busy[machine] == 0 {
				continue
			}
			begin, otherBegin := t.start+t.ahead[machine], other.start+other.ahead[machine]
			free := otherBegin + other.busy[machine]
			if begin < free && otherBegin < begin+busy {
				return free - begin
			}
		}
	}
	return 0
}

// earliest returns a course with the least start with which it meets none of some others.
func earliest(c course, others []transfer) transfer {
	t := transfer{course: c}
	for delay := wait(t, others); delay > 0; delay = wait(t, others) {
		t.start += delay
	}
	return t
}

// end returns the second in which the last one of some transfers has run empty.
func end(transfers []transfer) int {
	last := 0
	for _, t := range transfers {
		last = max(last, t.start+t.length)
	}
	return last
}

// Schedule returns the starts of tasks, each one as early as those before it permit.
func Schedule(p api.Plant, tasks []api.Task) ([]int, api.Errno) {
	courses, e := coursesOf(p, tasks)
	if e != api.OK {
		return nil, e
	}
	var transfers []transfer
	var starts []int
	for _, c := range courses {
		t := earliest(c, transfers)
		transfers, starts = append(transfers, t), append(starts, t.start)
	}
	return starts, api.OK
}

// transfersOf returns tasks with their starts, or the error of CheckSchedule.
func transfersOf(p api.Plant, tasks []api.Task, starts []int) ([]transfer, api.Errno) {
	courses, e := coursesOf(p, tasks)
	if e != api.OK {
		return nil, e
	}
	if len(starts) != len(tasks) {
		return nil, api.ErrShape
	}
	var transfers []transfer
	for i, start := range starts {
		if start < 0 || start > api.MaxMass {
			return nil, api.ErrRange
		}
		transfers = append(transfers, transfer{courses[i], start})
	}
	for i, t := range transfers {
		if wait(t, transfers[:i]) > 0 {
			return nil, api.ErrGrain
		}
	}
	return transfers, api.OK
}

// CheckSchedule returns OK for starts with which no two tasks meet in a machine.
func CheckSchedule(p api.Plant, tasks []api.Task, starts []int) api.Errno {
	_, e := transfersOf(p, tasks, starts)
	return e
}

// Length returns when the last task has run empty.
func Length(p api.Plant, tasks []api.Task, starts []int) (int, api.Errno) {
	transfers, e := transfersOf(p, tasks, starts)
	return end(transfers), e
}

// bound returns a time below which no schedule of some courses ends.
func bound(courses []course) int {
	most := 0
	for machine := range api.MaxMachines {
		ahead, busy, behind := math.MaxInt, 0, math.MaxInt
		for _, c := range courses {
			if c.busy[machine] > 0 {
				ahead = min(ahead, c.ahead[machine])
				busy += c.busy[machine]
				behind = min(behind, c.length-c.ahead[machine]-c.busy[machine])
			}
		}
		if busy > 0 {
			most = max(most, ahead+busy+behind)
		}
	}
	return most
}

// Bound returns a time below which no schedule ends.
func Bound(p api.Plant, tasks []api.Task) (int, api.Errno) {
	courses, e := coursesOf(p, tasks)
	if e != api.OK {
		return 0, e
	}
	return bound(courses), api.OK
}

// Best returns the best order of tasks for Schedule.
func Best(p api.Plant, tasks []api.Task) ([]int, api.Errno) {
	courses, e := coursesOf(p, tasks)
	if e != api.OK {
		return nil, e
	}
	if len(tasks) > mostOrdered {
		return nil, api.ErrLimit
	}
	return bestOrder(courses), api.OK
}

// bestOrder returns the first one of the orders of courses in which they end earliest.
func bestOrder(courses []course) []int {
	var best []int
	least, lowest := math.MaxInt, bound(courses)
	var try func(order []int, transfers []transfer)
	// try tries the orders that begin with this one, in ascending order.
	try = func(order []int, transfers []transfer) {
		if end(transfers) >= least {
			return
		}
		if len(order) == len(courses) {
			best, least = slices.Clone(order), end(transfers)
			return
		}
	search:
		for i, c := range courses {
			for _, number := range order {
				if number == i {
					continue search
				}
			}
			try(append(order, i), append(transfers, earliest(c, transfers)))
			if least == lowest {
				// No order that is tried later can end earlier.
				break search
			}
		}
	}
	try(nil, nil)
	return best
}
