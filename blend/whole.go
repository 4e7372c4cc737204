package blend

import (
	"slices"

	"bushel/api"
	"bushel/exact"
	"bushel/numbers"
)

// IsWhole reports whether a setting is a whole blend.
func IsWhole(sources []api.Source, order api.Order, gates api.Gates, setting []int) (bool, api.Errno) {
	g, e := readGated(sources, order, gates)
	if e != api.OK {
		return false, e
	}
	if len(setting) != len(sources) {
		return false, api.ErrShape
	}
	return g.isWhole(setting), api.OK
}

// BoxBound returns the number that the prices of a box prove.
func BoxBound(sources []api.Source, order api.Order, gates api.Gates, box api.Box) (api.Rat, api.Errno) {
	g, e := readGated(sources, order, gates)
	if e != api.OK {
		return "", e
	}
	b, e := g.readBox(box)
	if e != api.OK {
		return "", e
	}
	return numbers.Write(g.boxBound(b))
}

// IsComplete reports whether boxes cover all settings.
func IsComplete(sources []api.Source, order api.Order, gates api.Gates, boxes []api.Box) (bool, api.Errno) {
	g, e := readGated(sources, order, gates)
	if e != api.OK {
		return false, e
	}
	l, e := g.readBoxes(boxes)
	if e != api.OK {
		return false, e
	}
	return g.areComplete(l), api.OK
}

// isAbove0 reports whether a number is above 0.
func isAbove0(n exact.Number) bool { return n.Sign() > 0 }

// Best returns a whole blend of the least cost, and boxes that prove it.
func Best(sources []api.Source, order api.Order, gates api.Gates) ([]int, []api.Box, api.Errno) {
	g, e := readGated(sources, order, gates)
	if e != api.OK {
		return nil, nil, e
	}
	s := newSearch(g)
	if e := s.find(); e != api.OK {
		return nil, nil, e
	}
	if s.best == nil {
		return nil, nil, api.ErrInfeasible
	}
	boxes, e := s.prove(func(bound exact.Number) bool { return bound.Compare(s.goal) >= 0 })
	if e != api.OK {
		return nil, nil, e
	}
	return s.best, boxes, api.OK
}

// CheckBest returns OK if boxes prove that a whole blend has the least cost.
func CheckBest(sources []api.Source, order api.Order, gates api.Gates, setting []int, boxes []api.Box) api.Errno {
	g, e := readGated(sources, order, gates)
	if e != api.OK {
		return e
	}
	if len(setting) != len(sources) {
		return api.ErrShape
	}
	l, e := g.readBoxes(boxes)
	if e != api.OK {
		return e
	}
	if !g.isWhole(setting) {
		return api.ErrProof
	}
	cost := g.cost(g.amounts(setting))
	if !g.proves(l, func(bound exact.Number) bool { return bound.Compare(cost) >= 0 }) {
		return api.ErrProof
	}
	return api.OK
}

// RefuteWhole returns boxes that prove that there is no whole blend.
func RefuteWhole(sources []api.Source, order api.Order, gates api.Gates) ([]api.Box, api.Errno) {
	g, e := readGated(sources, order, gates)
	if e != api.OK {
		return nil, e
	}
	s := newSearch(g)
	e = s.find()
	if s.best != nil {
		return nil, api.ErrNone
	}
	if e != api.OK {
		return nil, e
	}
	return newSearch(g.withoutCosts()).prove(isAbove0)
}

// CheckRefutedWhole returns OK if boxes prove that there is no whole blend.
func CheckRefutedWhole(sources []api.Source, order api.Order, gates api.Gates, boxes []api.Box) api.Errno {
	g, e := readGated(sources, order, gates)
	if e != api.OK {
		return e
	}
	l, e := g.readBoxes(boxes)
	if e != api.OK {
		return e
	}
	if !g.withoutCosts().proves(l, isAbove0) {
		return api.ErrProof
	}
	return api.OK
}

// Next returns the first one of the cheapest whole blends that are not in a list.
func Next(sources []api.Source, order api.Order, gates api.Gates, settings [][]int) ([]int, api.Errno) {
	g, e := readGated(sources, order, gates)
	if e != api.OK {
		return nil, e
	}
	if len(settings) > api.MaxList {
		return nil, api.ErrMany
	}
	if g.isLarge() {
		return nil, api.ErrLimit
	}
	var best []int
	var least exact.Number
	for setting := range g.settings() {
		isListed := slices.ContainsFunc(settings, func(l []int) bool { return slices.Equal(l, setting) })
		if isListed || !g.isWhole(setting) {
			continue
		}
		if cost := g.cost(g.amounts(setting)); best == nil || cost.Compare(least) < 0 {
			best, least = setting, cost
		}
	}
	if best == nil {
		return nil, api.ErrNone
	}
	return best, api.OK
}
