package load

import (
	"bushel/api"
	"bushel/exact"
)

// limit is a limit of a ship: its name, how many holds or stations have it, and whether it holds for one of them.
type limit struct {
	name  string
	count func(s *ship) int
	holds func(f *afloat, number int) bool
}

// limits returns the limits in their order.
func limits() [5]limit {
	ofHolds := func(s *ship) int { return len(s.Holds) }
	ofStations := func(s *ship) int { return len(s.Weight) }
	ofShip := func(*ship) int { return 1 }
	return [...]limit{
		{"room", ofHolds, func(f *afloat, hold int) bool { return f.masses[hold] <= f.Holds[hold].Room }},
		{"lift", ofStations, func(f *afloat, station int) bool { return f.buoyancies[station].Sign() >= 0 }},
		{"shear", ofStations, func(f *afloat, station int) bool {
			return isWithin(f.shears[station], f.inUnits(f.Shear[station]))
		}},
		{"bending", ofStations, func(f *afloat, station int) bool {
			return isWithin(f.bendings[station], f.inUnits(f.Bending[station]))
		}},
		{"trim", ofShip, func(f *afloat, _ int) bool { return isWithin(f.slope, f.steepest) }},
	}
}

// isWithin reports whether the absolute value of a number is at most another one.
func isWithin(n, most exact.Number) bool {
	return exact.Greater(n, n.Negated()).Compare(most) <= 0
}

// inUnits returns a mass in units of the ship.
func (s *ship) inUnits(mass int) exact.Number { return exact.Whole(mass).Times(s.units) }

// fault returns the first limit that does not hold, and the hold or the station. It returns false if all limits hold.
func (f *afloat) fault() (string, int, bool) {
	for _, l := range limits() {
		for number := range l.count(f.ship) {
			if !l.holds(f, number) {
				return l.name, number, true
			}
		}
	}
	return "", 0, false
}

// isSafe reports whether a ship is safe with a cargo.
func (s *ship) isSafe(masses []int) bool {
	_, _, isFaulty := s.with(masses).fault()
	return !isFaulty
}

// Safe reports whether no limit of a ship is exceeded.
func Safe(s api.Ship, masses []int) (bool, api.Errno) {
	f, e := readCargo(s, masses)
	if e != api.OK {
		return false, e
	}
	_, _, isFaulty := f.fault()
	return !isFaulty, api.OK
}

// Fault returns the first limit that is exceeded, and its hold or station.
func Fault(s api.Ship, masses []int) (string, int, api.Errno) {
	f, e := readCargo(s, masses)
	if e != api.OK {
		return "", 0, e
	}
	name, number, isFaulty := f.fault()
	if !isFaulty {
		return "", 0, api.ErrNone
	}
	return name, number, api.OK
}
