package load

import (
	"slices"

	"bushel/api"
	"bushel/measure"
)

// checkPours returns the first error of pours, or OK.
func (s *ship) checkPours(pours []api.Pour) api.Errno {
	if len(pours) > api.MaxPours {
		return api.ErrMany
	}
	for _, p := range pours {
		if !isNumberOf(s.Holds, p.Hold) {
			return api.ErrUnknown
		}
		if !isFrom(1, api.MaxMass, p.Mass) {
			return api.ErrRange
		}
	}
	return api.OK
}

// run returns the cargo behind each pour. It returns false if the pours are not safe.
func (s *ship) run(pours []api.Pour) ([][]int, bool) {
	cargo := make([]int, len(s.Holds))
	if !s.isSafe(cargo) {
		return nil, false
	}
	var cargoes [][]int
	for _, p := range pours {
		cargo[p.Hold] += p.Mass
		if !s.isSafe(cargo) {
			return nil, false
		}
		cargoes = append(cargoes, slices.Clone(cargo))
	}
	return cargoes, true
}

// Run returns the masses in the holds behind each pour.
func Run(s api.Ship, pours []api.Pour) ([][]int, api.Errno) {
	read, e := readShip(s)
	if e != api.OK {
		return nil, e
	}
	if e := read.checkPours(pours); e != api.OK {
		return nil, e
	}
	cargoes, areSafe := read.run(pours)
	if !areSafe {
		return nil, api.ErrSafe
	}
	return cargoes, api.OK
}

// loading is a ship with the parts that are to be poured into each of its holds.
type loading struct {
	*ship
	parts [][]int
}

// readLoading returns a loading, or its first error.
func readLoading(given api.Ship, masses []int, passes int) (loading, api.Errno) {
	s, e := readShip(given)
	if e != api.OK {
		return loading{}, e
	}
	if e := s.checkMasses(masses); e != api.OK {
		return loading{}, e
	}
	if !isFrom(1, api.MaxPours, passes) {
		return loading{}, api.ErrRange
	}
	l := loading{ship: s}
	for _, mass := range masses {
		parts, _ := measure.Apportion(mass, slices.Repeat([]int{1}, passes))
		l.parts = append(l.parts, slices.DeleteFunc(parts, func(part int) bool { return part == 0 }))
	}
	if len(slices.Concat(l.parts...)) > api.MaxPours {
		return loading{}, api.ErrMany
	}
	return l, api.OK
}

// progress says how many parts have been poured into each hold.
type progress [api.MaxHolds]int

// whole returns the progress of a whole loading.
func (l loading) whole() progress {
	var p progress
	for hold, parts := range l.parts {
		p[hold] = len(parts)
	}
	return p
}

// states returns the number of all states of progress.
func (l loading) states() int {
	product := 1
	for _, parts := range l.parts {
		product *= len(parts) + 1
	}
	return product
}

// next returns the next pour into a hold, and false if all its parts have been poured.
func (l loading) next(p progress, hold int) (api.Pour, bool) {
	if p[hold] == len(l.parts[hold]) {
		return api.Pour{}, false
	}
	return api.Pour{Hold: hold, Mass: l.parts[hold][p[hold]]}, true
}

// cargo returns the masses that have been poured.
func (l loading) cargo(p progress) []int {
	masses := make([]int, len(l.parts))
	for hold, parts := range l.parts {
		for _, part := range parts[:p[hold]] {
			masses[hold] += part
		}
	}
	return masses
}

// order returns pours that are safe, and false if there are none.
func (l loading) order() ([]api.Pour, bool) {
	var pours []api.Pour
	isTried := map[progress]bool{}
	// isPoured adds the pours that lead on from a state of progress. No pours do from one that has been tried before, or the search would have ended there.
	var isPoured func(p progress) bool
	isPoured = func(p progress) bool {
		if isTried[p] {
			return false
		}
		isTried[p] = true
		if !l.isSafe(l.cargo(p)) {
			return false
		}
		if p == l.whole() {
			return true
		}
		for hold := range l.parts {
			pour, exists := l.next(p, hold)
			if !exists {
				continue
			}
			further := p
			further[hold]++
			pours = append(pours, pour)
			if isPoured(further) {
				return true
			}
			pours = pours[:len(pours)-1]
		}
		return false
	}
	// Where the whole cargo is not safe, no order needs to be tried.
	exist := l.isSafe(l.cargo(l.whole())) && isPoured(progress{})
	return pours, exist
}

// Sequence returns pours that load masses in parts and are safe.
func Sequence(s api.Ship, masses []int, passes int) ([]api.Pour, api.Errno) {
	l, e := readLoading(s, masses, passes)
	if e != api.OK {
		return nil, e
	}
	if l.states() > api.MaxStates {
		return nil, api.ErrLimit
	}
	pours, exist := l.order()
	if !exist {
		return nil, api.ErrNone
	}
	return pours, api.OK
}

// isOrderOf reports whether pours are all those of a loading, those into each hold in their order.
func (l loading) isOrderOf(pours []api.Pour) bool {
	var p progress
	for _, given := range pours {
		pour, exists := l.next(p, given.Hold)
		if !exists || given != pour {
			return false
		}
		p[given.Hold]++
	}
	return p == l.whole()
}

// CheckSequence returns OK if pours load masses in parts and are safe.
func CheckSequence(s api.Ship, masses []int, passes int, pours []api.Pour) api.Errno {
	l, e := readLoading(s, masses, passes)
	if e != api.OK {
		return e
	}
	if e := l.checkPours(pours); e != api.OK {
		return e
	}
	if !l.isOrderOf(pours) {
		return api.ErrProof
	}
	if _, areSafe := l.run(pours); !areSafe {
		return api.ErrSafe
	}
	return api.OK
}
