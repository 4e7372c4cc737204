package load

import (
	"bushel/api"
	"bushel/exact"
	"bushel/numbers"
)

// ship is a ship that has been read. Forces on it are whole numbers of units, so that no fraction needs to be brought to its lowest terms on the way.
type ship struct {
	api.Ship
	carry    []exact.Number  // whole numbers in the proportion of Carry
	sums     [3]exact.Number // of these, of their products with the numbers of the stations, and of those with the squares of the numbers
	pieces   int             // of a kilogram; the loads are whole numbers of them
	piece    exact.Number    // the units of a piece
	units    exact.Number    // the units of a kilogram
	level    exact.Number    // the slope, as an afloat has it, for a trim of 1
	steepest exact.Number    // the slope for the greatest trim
}

// readShip returns a ship, or its first error.
func readShip(given api.Ship) (*ship, api.Errno) {
	if e := checkStations(given); e != api.OK {
		return nil, e
	}
	if e := checkHolds(given); e != api.OK {
		return nil, e
	}
	trim, e := numbers.Read(given.Trim)
	if e != api.OK {
		return nil, e
	}
	if trim.Sign() < 0 {
		return nil, api.ErrRange
	}
	s := &ship{Ship: given}
	s.prepare(trim)
	return s, api.OK
}

// checkStations returns the first error of the stations of a ship, or OK.
func checkStations(s api.Ship) api.Errno {
	count := len(s.Weight)
	switch {
	case count == 0:
		return api.ErrShape
	case count > api.MaxStations:
		return api.ErrMany
	case len(s.Carry) != count || len(s.Shear) != count || len(s.Bending) != count:
		return api.ErrShape
	}
	for k := range count {
		if !areMasses(s.Weight[k]) {
			return api.ErrRange
		}
		carry, e := numbers.Read(s.Carry[k])
		if e != api.OK {
			return e
		}
		if carry.Sign() <= 0 || !areMasses(s.Shear[k], s.Bending[k]) {
			return api.ErrRange
		}
	}
	return api.OK
}

// checkHolds returns the first error of the holds of a ship, or OK.
func checkHolds(s api.Ship) api.Errno {
	if len(s.Holds) == 0 {
		return api.ErrShape
	}
	if len(s.Holds) > api.MaxHolds {
		return api.ErrMany
	}
	before := 0
	for _, h := range s.Holds {
		if h.From < 0 || h.To <= h.From || h.To > len(s.Weight) || !areMasses(h.Room) {
			return api.ErrRange
		}
		if h.From < before {
			return api.ErrOrder
		}
		before = h.To
	}
	return api.OK
}

// moment returns the sum of what stations have, each times a power of its number.
func moment[T any](stations []T, power int, number func(x T) exact.Number) exact.Number {
	sum := exact.Number{}
	for k, x := range stations {
		factor := 1
		for range power {
			factor *= k
		}
		sum = sum.Plus(number(x).Times(exact.Whole(factor)))
	}
	return sum
}

// wholes returns whole numbers in the proportion of numbers, and how often they are as great as these.
func wholes(l []exact.Number) ([]exact.Number, exact.Number) {
	times := exact.Whole(1)
	for _, n := range l {
		times = times.Times(n.Times(times).Denominator())
	}
	var multiples []exact.Number
	for _, n := range l {
		multiples = append(multiples, n.Times(times))
	}
	return multiples, times
}

// prepare finds the units of a ship, and what the water carries in them.
func (s *ship) prepare(trim exact.Number) {
	given, _ := numbers.Each(s.Carry, numbers.Read)
	carry, times := wholes(given)
	s.carry = carry
	for power := range s.sums {
		s.sums[power] = moment(s.carry, power, func(n exact.Number) exact.Number { return n })
	}
	if len(s.carry) == 1 {
		// The only station has the number 0, so that the equation of the moments is empty. With any other sum here it says that the slope is 0.
		s.sums[2] = exact.Whole(1)
	}
	s.pieces = 1
	for _, h := range s.Holds {
		s.pieces *= h.To - h.From
	}
	// The determinant of the two equations of the buoyancy.
	s.piece = s.sums[0].Times(s.sums[2]).Minus(s.sums[1].Times(s.sums[1]))
	s.units = exact.Whole(s.pieces).Times(s.piece)
	s.level = s.units.Over(times)
	s.steepest = trim.Times(s.level)
}

// inPieces returns the loads of the stations, in pieces of a kilogram.
func (s *ship) inPieces(masses []int) []int {
	var l []int
	for _, weight := range s.Weight {
		l = append(l, weight*s.pieces)
	}
	for i, h := range s.Holds {
		for k := h.From; k < h.To; k++ {
			l[k] += masses[i] * s.pieces / (h.To - h.From)
		}
	}
	return l
}

// afloat is a ship with a cargo. Its forces are whole numbers of units, and so is what its slope adds to the buoyancy of a station for each 1 that it carries.
type afloat struct {
	*ship
	masses     []int
	loads      []exact.Number
	buoyancies []exact.Number
	shears     []exact.Number
	bendings   []exact.Number
	slope      exact.Number
}

// with returns a ship with a cargo.
func (s *ship) with(masses []int) *afloat {
	f := &afloat{ship: s, masses: masses}
	loads := s.inPieces(masses)
	sum, turn := moment(loads, 0, exact.Whole), moment(loads, 1, exact.Whole)
	base := sum.Times(s.sums[2]).Minus(turn.Times(s.sums[1]))
	f.slope = turn.Times(s.sums[0]).Minus(sum.Times(s.sums[1]))
	shear, bending := exact.Number{}, exact.Number{}
	for k, pieces := range loads {
		load := exact.Whole(pieces).Times(s.piece)
		buoyancy := s.carry[k].Times(base.Plus(f.slope.Times(exact.Whole(k))))
		shear = shear.Plus(load).Minus(buoyancy)
		bending = bending.Plus(shear)
		f.loads, f.buoyancies = append(f.loads, load), append(f.buoyancies, buoyancy)
		f.shears, f.bendings = append(f.shears, shear), append(f.bendings, bending)
	}
	return f
}

// readCargo returns a ship with a cargo, or their first error.
func readCargo(given api.Ship, masses []int) (*afloat, api.Errno) {
	s, e := readShip(given)
	if e != api.OK {
		return nil, e
	}
	if e := s.checkMasses(masses); e != api.OK {
		return nil, e
	}
	return s.with(masses), api.OK
}

// checkMasses returns the first error of the masses of a cargo, or OK.
func (s *ship) checkMasses(masses []int) api.Errno {
	if len(masses) != len(s.Holds) {
		return api.ErrShape
	}
	if !areMasses(masses...) {
		return api.ErrRange
	}
	return api.OK
}

// kilograms returns forces that a function chooses, in kilograms.
func kilograms(given api.Ship, masses []int, choose func(f *afloat) []exact.Number) ([]api.Rat, api.Errno) {
	f, e := readCargo(given, masses)
	if e != api.OK {
		return nil, e
	}
	return numbers.Each(choose(f), func(n exact.Number) (api.Rat, api.Errno) { return numbers.Write(n.Over(f.units)) })
}

// CheckShip returns the first error of a ship, or OK.
func CheckShip(s api.Ship) api.Errno {
	_, e := readShip(s)
	return e
}

// Loads returns the load of each station.
func Loads(s api.Ship, masses []int) ([]api.Rat, api.Errno) {
	return kilograms(s, masses, func(f *afloat) []exact.Number { return f.loads })
}

// Buoyancy returns what water carries at each station.
func Buoyancy(s api.Ship, masses []int) ([]api.Rat, api.Errno) {
	return kilograms(s, masses, func(f *afloat) []exact.Number { return f.buoyancies })
}

// Trim returns the trim of a ship.
func Trim(s api.Ship, masses []int) (api.Rat, api.Errno) {
	f, e := readCargo(s, masses)
	if e != api.OK {
		return "", e
	}
	return numbers.Write(f.slope.Over(f.level))
}

// Shear returns the shear behind each station.
func Shear(s api.Ship, masses []int) ([]api.Rat, api.Errno) {
	return kilograms(s, masses, func(f *afloat) []exact.Number { return f.shears })
}

// Bending returns the bending behind each station.
func Bending(s api.Ship, masses []int) ([]api.Rat, api.Errno) {
	return kilograms(s, masses, func(f *afloat) []exact.Number { return f.bendings })
}
