package path

import (
	"iter"
	"slices"

	"bushel/api"
)

// onward visits the machines that can be behind a machine in a path to one of some sinks.
func onward(p api.Plant, isSink marks, machine int) iter.Seq[int] {
	return func(yield func(int) bool) {
		for _, arc := range p.Arcs {
			if arc[0] == machine && (isConveyor(p, arc[1]) || isSink[arc[1]]) && !yield(arc[1]) {
				return
			}
		}
	}
}

// Route returns a path of least time between two machines that avoids others.
func Route(p api.Plant, from, to int, blocked []int) ([]int, api.Errno) {
	if e := CheckPlant(p); e != api.OK {
		return nil, e
	}
	if !areMachines(p, from, to) || !areMachines(p, blocked...) {
		return nil, api.ErrUnknown
	}
	isBlocked := marked(blocked...)
	if from == to || isConveyor(p, from) || isConveyor(p, to) || isBlocked[from] || isBlocked[to] {
		return nil, api.ErrNone
	}
	route := fastest(p, from, to, isBlocked)
	if len(route) == 0 {
		return nil, api.ErrNone
	}
	return route, api.OK
}

// fastest returns a path of least time between two different ends that avoids blocked machines, if there is one.
func fastest(p api.Plant, from, to int, isBlocked marks) []int {
	var times, before [api.MaxMachines]int // on the fastest way to a machine that is found so far
	isFound, isDone := marked(from), isBlocked
	// nearest returns a machine to which no faster way will be found, since all others lead over machines that are not nearer.
	nearest := func() int {
		least := none
		for machine := range p.Machines {
			if isFound[machine] && !isDone[machine] && (least == none || times[machine] < times[least]) {
				least = machine
			}
		}
		if least != none {
			isDone[least] = true
		}
		return least
	}
	for machine := nearest(); machine != none; machine = nearest() {
		for next := range onward(p, marked(to), machine) {
			time := times[machine] + p.Machines[next].Time
			if !isFound[next] || time < times[next] {
				isFound[next], times[next], before[next] = true, time, machine
			}
		}
	}
	if !isFound[to] {
		return nil
	}
	route := []int{to}
	for machine := to; machine != from; {
		machine = before[machine]
		route = append(route, machine)
	}
	slices.Reverse(route)
	return route
}
