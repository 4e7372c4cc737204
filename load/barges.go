package load

import (
	"slices"
	"sort"

	"bushel/api"
	"bushel/dry"
	"bushel/exact"
	"bushel/numbers"
)

// point is a point of a table of draughts: a mass, and the draught with it.
type point struct {
	mass    exact.Number
	draught exact.Number
}

// readTable returns the points of a table of draughts, or its first error.
func readTable(c []api.Point) ([]point, api.Errno) {
	if e := dry.CheckCurve(c); e != api.OK {
		return nil, e
	}
	var points []point
	for _, given := range c {
		l, _ := numbers.Each([]api.Rat{given.X, given.Y}, numbers.Read)
		points = append(points, point{l[0], l[1]})
	}
	if points[0].mass.Sign() != 0 {
		return nil, api.ErrRange
	}
	before := exact.Number{}
	for _, p := range points {
		if p.draught.Sign() < 0 {
			return nil, api.ErrRange
		}
		if p.draught.Compare(before) < 0 {
			return nil, api.ErrOrder
		}
		before = p.draught
	}
	return points, api.OK
}

// CheckTable returns the first error of a table of draughts, or OK.
func CheckTable(c []api.Point) api.Errno {
	_, e := readTable(c)
	return e
}

// Draught returns the draught of a barge with a mass.
func Draught(c []api.Point, mass int) (api.Rat, api.Errno) {
	if e := CheckTable(c); e != api.OK {
		return "", e
	}
	if !areMasses(mass) {
		return "", api.ErrRange
	}
	x, _ := numbers.Write(exact.Whole(mass))
	// A mass above the last one of the table has the error ErrRange there, too.
	return dry.At(c, x)
}

// Most returns the greatest mass with at most a draught.
func Most(c []api.Point, draught api.Rat) (int, api.Errno) {
	points, e := readTable(c)
	if e != api.OK {
		return 0, e
	}
	n, e := numbers.Read(draught)
	if e != api.OK {
		return 0, e
	}
	if n.Compare(points[0].draught) < 0 {
		return 0, api.ErrNone
	}
	most := exact.Lesser(greatest(points, n), exact.Whole(api.MaxMass))
	mass, _ := most.Floor().Int()
	return mass, api.OK
}

// greatest returns the greatest mass of a table, whole or not, with at most a draught that is not below the first one.
func greatest(points []point, draught exact.Number) exact.Number {
	i := slices.IndexFunc(points, func(p point) bool { return p.draught.Compare(draught) > 0 })
	if i < 0 {
		return points[len(points)-1].mass
	}
	low, high := points[i-1], points[i]
	rate := high.mass.Minus(low.mass).Over(high.draught.Minus(low.draught))
	return low.mass.Plus(draught.Minus(low.draught).Times(rate))
}

// Spread returns masses in rooms that are as equal as possible.
func Spread(total int, rooms []int) ([]int, api.Errno) {
	switch {
	case !areMasses(total):
		return nil, api.ErrRange
	case len(rooms) > api.MaxList:
		return nil, api.ErrMany
	case !areMasses(rooms...):
		return nil, api.ErrRange
	case total > sumOf(rooms):
		return nil, api.ErrFull
	}
	// No room is above MaxMass, so at this level at the latest all of them are full.
	above := sort.Search(api.MaxMass+1, func(level int) bool { return sumOf(upTo(level, rooms)) > total })
	masses := upTo(above-1, rooms)
	left := total - sumOf(masses)
	for i, room := range rooms {
		if left > 0 && masses[i] < room {
			masses[i]++
			left--
		}
	}
	return masses, api.OK
}

// upTo returns the masses in rooms that are filled up to a level.
func upTo(level int, rooms []int) []int {
	var masses []int
	for _, room := range rooms {
		masses = append(masses, min(level, room))
	}
	return masses
}

// sumOf returns the sum of numbers.
func sumOf(l []int) int {
	sum := 0
	for _, n := range l {
		sum += n
	}
	return sum
}
