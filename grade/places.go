package grade

import (
	"math"

	"bushel/exact"
)

// point is a point by the texts of its coordinates: each number has one text, so that equal points are equal structs.
type point struct {
	x string
	y string
}

// place is a point by the numbers that are its coordinates.
type place struct {
	x exact.Number
	y exact.Number
}

// point returns a place as a point of a list.
func (a place) point() point {
	// The coordinates of corners have far more digits than those of probes, and no limit.
	x, _ := a.x.Text(math.MaxInt32)
	y, _ := a.y.Text(math.MaxInt32)
	return point{x, y}
}

// minus returns the way to a place from another one.
func (a place) minus(b place) place {
	return place{a.x.Minus(b.x), a.y.Minus(b.y)}
}

// times returns the sum of the products of the coordinates.
func (a place) times(b place) exact.Number {
	return a.x.Times(b.x).Plus(a.y.Times(b.y))
}

// square returns the squared distance from the origin.
func (a place) square() exact.Number {
	return a.times(a)
}
