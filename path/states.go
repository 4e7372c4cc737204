package path

import (
	"slices"

	"bushel/api"
	"bushel/measure"
)

// keepsGrain reports whether a machine can have a grain: pits and spouts never do.
func keepsGrain(p api.Plant, machine int) bool {
	kind := kindAt(p, machine)
	return kind != pit && kind != spout
}

// CheckState returns the first error of a state, or OK.
func CheckState(p api.Plant, state []api.Status) api.Errno {
	if e := CheckPlant(p); e != api.OK {
		return e
	}
	if len(state) != len(p.Machines) {
		return api.ErrShape
	}
	for machine, s := range state {
		if e := checkStatus(p, machine, s); e != api.OK {
			return e
		}
	}
	if !isValid(p, state) {
		return api.ErrState
	}
	return api.OK
}

// checkStatus returns the first error of the status of a machine, or OK.
func checkStatus(p api.Plant, machine int, s api.Status) api.Errno {
	switch {
	case s.Runs && !isConveyor(p, machine):
		return api.ErrKind
	case s.Feeds != none && !canFeed(p, machine, s.Feeds):
		return api.ErrUnknown
	case s.Grain != "" && !measure.IsName(s.Grain):
		return api.ErrName
	case s.Grain != "" && !keepsGrain(p, machine):
		return api.ErrGrain
	}
	return api.OK
}

// isValid reports whether statuses without an error are a valid state.
func isValid(p api.Plant, state []api.Status) bool {
	var isFed marks
	for machine, s := range state {
		if s.Feeds == none {
			if s.Runs {
				return false
			}
			continue
		}
		if isFed[s.Feeds] || !fit(p, state, machine, s.Feeds) {
			return false
		}
		isFed[s.Feeds] = true
	}
	return true
}

// fit reports whether a machine can feed another one while they run, or do not, with the grains that they have.
func fit(p api.Plant, state []api.Status, from, to int) bool {
	if state[from].Runs && isConveyor(p, to) && !state[to].Runs {
		return false
	}
	var grains []string
	for _, machine := range [2]int{from, to} {
		if keepsGrain(p, machine) {
			grains = append(grains, state[machine].Grain)
		}
	}
	return !slices.Contains(grains, "") && len(slices.Compact(grains)) < 2
}

// feederOf returns the machine that feeds another one in a valid state.
func feederOf(state []api.Status, machine int) int {
	return slices.IndexFunc(state, func(s api.Status) bool { return s.Feeds == machine })
}

// upstream returns the machines upstream of a machine in a valid state, the nearest ones first.
func upstream(state []api.Status, machine int) []int {
	var machines []int
	// At most one machine feeds each one, so that the way against the grain has no branches; but it can be a ring.
	for feeder := feederOf(state, machine); feeder != none && feeder != machine; feeder = feederOf(state, feeder) {
		machines = append(machines, feeder)
	}
	return machines
}

// conveyorsOf returns the conveyors of a path.
func conveyorsOf(path []int) []int { return path[1 : len(path)-1] }

// Empty returns the state in which all machines stand still and are empty.
func Empty(p api.Plant) ([]api.Status, api.Errno) {
	if e := CheckPlant(p); e != api.OK {
		return nil, e
	}
	return slices.Repeat([]api.Status{{Feeds: none}}, len(p.Machines)), api.OK
}

// Start returns the state in which a path runs with a grain.
func Start(p api.Plant, state []api.Status, path []int, grain string) ([]api.Status, api.Errno) {
	if e := checkStart(p, state, path, grain); e != api.OK {
		return nil, e
	}
	result := slices.Clone(state)
	for place, machine := range path[1:] {
		result[path[place]].Feeds = machine
		if keepsGrain(p, machine) {
			result[machine].Grain = grain
		}
	}
	return running(result, conveyorsOf(path), true), api.OK
}

// checkStart returns the first error of the arguments of Start, or OK.
func checkStart(p api.Plant, state []api.Status, path []int, grain string) api.Errno {
	if e := CheckState(p, state); e != api.OK {
		return e
	}
	if e := checkPath(p, path); e != api.OK {
		return e
	}
	if !measure.IsName(grain) {
		return api.ErrName
	}
	for place, machine := range path {
		s := state[machine]
		switch {
		case s.Runs, s.Feeds != none, feederOf(state, machine) != none:
			return api.ErrState
		case place == 0 && kindAt(p, machine) == bin && s.Grain == "":
			return api.ErrEmpty
		case s.Grain != "" && s.Grain != grain:
			return api.ErrGrain
		}
	}
	return api.OK
}

// checkSet returns the first error of a path that is to be set in a state, or OK.
func checkSet(p api.Plant, state []api.Status, path []int) api.Errno {
	if e := CheckState(p, state); e != api.OK {
		return e
	}
	if e := checkPath(p, path); e != api.OK {
		return e
	}
	for place, machine := range path[1:] {
		if state[path[place]].Feeds != machine {
			return api.ErrState
		}
	}
	return api.OK
}

// running returns a state in which some machines run, or do not.
func running(state []api.Status, machines []int, runs bool) []api.Status {
	result := slices.Clone(state)
	for _, machine := range machines {
		result[machine].Runs = runs
	}
	return result
}

// released returns a state in which a path that was set is not set any more, and stands still.
func released(state []api.Status, path []int) []api.Status {
	result := running(state, conveyorsOf(path), false)
	for _, machine := range path[:len(path)-1] {
		result[machine].Feeds = none
	}
	return result
}

// Stop returns the state in which a path is given up, with its grain in it.
func Stop(p api.Plant, state []api.Status, path []int) ([]api.Status, api.Errno) {
	if e := checkSet(p, state, path); e != api.OK {
		return nil, e
	}
	return released(state, path), api.OK
}

// Clean returns the state in which a path has run empty.
func Clean(p api.Plant, state []api.Status, path []int) ([]api.Status, api.Errno) {
	if e := checkSet(p, state, path); e != api.OK {
		return nil, e
	}
	result := released(state, path)
	for _, machine := range conveyorsOf(path) {
		if !state[machine].Runs {
			return nil, api.ErrState
		}
		result[machine].Grain = ""
	}
	return result, api.OK
}

// Upstream returns the machines from which grain would come to a machine, in ascending order.
func Upstream(p api.Plant, state []api.Status, machine int) ([]int, api.Errno) {
	if e := CheckState(p, state); e != api.OK {
		return nil, e
	}
	if !areMachines(p, machine) {
		return nil, api.ErrUnknown
	}
	return slices.Sorted(slices.Values(upstream(state, machine))), api.OK
}

// Fault returns the state in which a machine, and what feeds it, stands still.
func Fault(p api.Plant, state []api.Status, machine int) ([]api.Status, api.Errno) {
	if e := CheckState(p, state); e != api.OK {
		return nil, e
	}
	switch {
	case !areMachines(p, machine):
		return nil, api.ErrUnknown
	case !isConveyor(p, machine):
		return nil, api.ErrKind
	}
	return running(state, append(upstream(state, machine), machine), false), api.OK
}

// Resume returns the state in which a path that stood still runs again.
func Resume(p api.Plant, state []api.Status, path []int) ([]api.Status, api.Errno) {
	if e := checkSet(p, state, path); e != api.OK {
		return nil, e
	}
	return running(state, conveyorsOf(path), true), api.OK
}
