package path

import (
	"slices"

	"bushel/api"
)

// checkEnds returns the first error of a plant, and of sources and sinks in it, or OK.
func checkEnds(p api.Plant, sources, sinks []int) api.Errno {
	if e := CheckPlant(p); e != api.OK {
		return e
	}
	if e := checkSide(p, sources, pit); e != api.OK {
		return e
	}
	if e := checkSide(p, sinks, spout); e != api.OK {
		return e
	}
	if !areDifferent(slices.Concat(sources, sinks)) {
		return api.ErrTwice
	}
	return api.OK
}

// checkSide returns the first error of a list of ends that are bins or of another kind, or OK.
func checkSide(p api.Plant, ends []int, other int) api.Errno {
	if !areMachines(p, ends...) {
		return api.ErrUnknown
	}
	for _, machine := range ends {
		if kind := kindAt(p, machine); kind != bin && kind != other {
			return api.ErrKind
		}
	}
	if !areDifferent(ends) {
		return api.ErrTwice
	}
	return api.OK
}

// withLoops returns a plant in which each conveyor can feed itself, too.
// So one machine feeds each conveyor, in a path or not, and a search takes a conveyor out of a path as it leads one to another machine.
func withLoops(p api.Plant) api.Plant {
	p.Arcs = slices.Clone(p.Arcs)
	for machine := range p.Machines {
		if isConveyor(p, machine) {
			p.Arcs = append(p.Arcs, [2]int{machine, machine})
		}
	}
	return p
}

// widest returns as many paths as possible from sources to sinks that have no machine in common.
// It marks the machines that a further path could enter if these ones gave way to it, though it would not come to a sink.
func widest(p api.Plant, sources, sinks []int) ([][]int, marks) {
	p, isSink := withLoops(p), marked(sinks...)
	var ahead [api.MaxMachines]int // the machine that feeds each one, which for a conveyor in no path is itself
	for machine := range ahead {
		ahead[machine] = none
		if machine < len(p.Machines) && isConveyor(p, machine) {
			ahead[machine] = machine
		}
	}
	var isSeen marks
	// extend lets a machine feed another one; what fed that one has to feed yet another one, and so on, up to a new sink.
	var extend func(machine int) bool
	extend = func(machine int) bool {
		for next := range onward(p, isSink, machine) {
			if isSeen[next] {
				continue
			}
			isSeen[next] = true
			if ahead[next] == none || extend(ahead[next]) {
				ahead[next] = machine
				return true
			}
		}
		return false
	}
	for _, source := range sources {
		before := isSeen
		if extend(source) {
			// What a search saw in vain stays a dead end, but the ways that this one saw have changed.
			isSeen = before
		}
	}
	return pathsOf(ahead, sources), isSeen
}

// pathsOf returns the paths from sources, for the machine ahead of each one.
func pathsOf(ahead [api.MaxMachines]int, sources []int) [][]int {
	behind := [api.MaxMachines]int{}
	for machine := range behind {
		behind[machine] = slices.Index(ahead[:], machine)
	}
	var paths [][]int
	for _, source := range sources {
		path := []int{source}
		for machine := behind[source]; machine != none; machine = behind[machine] {
			path = append(path, machine)
		}
		if len(path) > 1 {
			paths = append(paths, path)
		}
	}
	return paths
}

// Most returns how many paths without a common machine lead from sources to sinks.
func Most(p api.Plant, sources, sinks []int) (int, api.Errno) {
	paths, e := Disjoint(p, sources, sinks)
	return len(paths), e
}

// Disjoint returns as many paths without a common machine as lead from sources to sinks.
func Disjoint(p api.Plant, sources, sinks []int) ([][]int, api.Errno) {
	if e := checkEnds(p, sources, sinks); e != api.OK {
		return nil, e
	}
	paths, _ := widest(p, sources, sinks)
	return paths, api.OK
}

// CheckDisjoint returns OK for paths from sources to sinks without a common machine.
func CheckDisjoint(p api.Plant, sources, sinks []int, paths [][]int) api.Errno {
	if e := checkEnds(p, sources, sinks); e != api.OK {
		return e
	}
	isSource, isSink := marked(sources...), marked(sinks...)
	for _, path := range paths {
		if e := checkPath(p, path); e != api.OK {
			return e
		}
		if !isSource[path[0]] || !isSink[path[len(path)-1]] {
			return api.ErrForm
		}
	}
	if !areDifferent(slices.Concat(paths...)) {
		return api.ErrTwice
	}
	return api.OK
}

// Cut returns as few machines as possible through which all paths from sources to sinks lead.
func Cut(p api.Plant, sources, sinks []int) ([]int, api.Errno) {
	if e := checkEnds(p, sources, sinks); e != api.OK {
		return nil, e
	}
	paths, isSeen := widest(p, sources, sinks)
	var cut []int
	for _, path := range paths {
		// A further path could come up to this machine, but not past it.
		narrow := path[0]
		for _, machine := range path {
			if isSeen[machine] {
				narrow = machine
			}
		}
		cut = append(cut, narrow)
	}
	slices.Sort(cut)
	return cut, api.OK
}

// CheckCut returns OK for machines through which all paths from sources to sinks lead.
func CheckCut(p api.Plant, sources, sinks, machines []int) api.Errno {
	if e := checkEnds(p, sources, sinks); e != api.OK {
		return e
	}
	if !areMachines(p, machines...) {
		return api.ErrUnknown
	}
	if isPassable(p, sources, sinks, marked(machines...)) {
		return api.ErrProof
	}
	return api.OK
}

// isPassable reports whether a path leads from sources to sinks that avoids blocked machines.
func isPassable(p api.Plant, sources, sinks []int, isBlocked marks) bool {
	isSink, isClosed := marked(sinks...), isBlocked
	var leads func(machine int) bool
	leads = func(machine int) bool {
		if isClosed[machine] {
			return false
		}
		isClosed[machine] = true
		for next := range onward(p, isSink, machine) {
			if leads(next) {
				return true
			}
		}
		return isSink[machine]
	}
	return slices.ContainsFunc(sources, leads)
}
