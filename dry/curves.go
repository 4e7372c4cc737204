package dry

import (
	"slices"

	"bushel/api"
	"bushel/exact"
	"bushel/numbers"
)

// point is a point of a curve that has been read.
type point struct {
	x exact.Number
	y exact.Number
}

// turned returns a point with X and Y exchanged.
func (p point) turned() point { return point{p.y, p.x} }

// condition is a condition on a point of a curve behind those before it, and the error of a point for which it does not hold.
type condition struct {
	holds func(p point, before []point) bool
	e     api.Errno
}

// ascends is the condition on X of every curve.
func ascends() condition {
	return condition{func(p point, before []point) bool {
		return len(before) == 0 || p.x.Compare(before[len(before)-1].x) > 0
	}, api.ErrOrder}
}

// isOfMoisture is the first condition on Y of a drying curve.
func isOfMoisture() condition {
	return condition{func(p point, _ []point) bool { return isMoisture(p.y) }, api.ErrRange}
}

// falls is the second condition on Y of a drying curve.
func falls() condition {
	return condition{func(p point, before []point) bool {
		return len(before) == 0 || p.y.Compare(before[len(before)-1].y) < 0
	}, api.ErrOrder}
}

// check returns the error of the first condition that does not hold for a point, or OK.
func (p point) check(before []point, conditions ...condition) api.Errno {
	for _, c := range conditions {
		if !c.holds(p, before) {
			return c.e
		}
	}
	return api.OK
}

// readPoint returns a point behind those before it, or its first error.
func readPoint(given api.Point, before []point) (point, api.Errno) {
	l, e := numbers.Each([]api.Rat{given.X, given.Y}, numbers.Read)
	if e != api.OK {
		return point{}, e
	}
	p := point{l[0], l[1]}
	return p, p.check(before, ascends())
}

// readCurve returns the points of a curve, or its first error.
func readCurve(c []api.Point) ([]point, api.Errno) { return readChain(c, readPoint) }

// readCase returns a curve and numbers, or the first error of the curve, of further conditions on its points, and of the numbers.
func readCase(c []api.Point, given []api.Rat, conditions ...condition) ([]point, []exact.Number, api.Errno) {
	points, e := readCurve(c)
	if e != api.OK {
		return nil, nil, e
	}
	for i, p := range points {
		if e := p.check(points[:i], conditions...); e != api.OK {
			return nil, nil, e
		}
	}
	l, e := numbers.Each(given, numbers.Read)
	if e != api.OK {
		return nil, nil, e
	}
	return points, l, api.OK
}

// stretch returns the numbers at which a curve has values.
func stretch(points []point) numbers.Interval {
	return numbers.Interval{Low: points[0].x, High: points[len(points)-1].x}
}

// through returns the value at x of the line through two points.
func through(a, b point, x exact.Number) exact.Number {
	slope := b.y.Minus(a.y).Over(b.x.Minus(a.x))
	return a.y.Plus(slope.Times(x.Minus(a.x)))
}

// valueAt returns the value of a curve at a number from its first X to its last one.
func valueAt(points []point, x exact.Number) exact.Number {
	i := slices.IndexFunc(points, func(p point) bool { return p.x.Compare(x) >= 0 })
	if points[i].x.Compare(x) == 0 {
		return points[i].y
	}
	return through(points[i-1], points[i], x)
}

// placeOf returns the least number at which a curve has a value, and whether there is one.
func placeOf(points []point, y exact.Number) (exact.Number, bool) {
	for i, p := range points {
		side := p.y.Compare(y)
		// A curve that is now on the other side of the value had it on the way.
		if i > 0 && side*points[i-1].y.Compare(y) < 0 {
			return through(points[i-1].turned(), p.turned(), y), true
		}
		if side == 0 {
			return p.x, true
		}
	}
	return exact.Number{}, false
}

// part returns the points of the part of a curve from one number to another one.
func part(points []point, from, to exact.Number) []point {
	l := []point{{from, valueAt(points, from)}}
	for _, p := range points {
		if p.x.Compare(from) > 0 && p.x.Compare(to) < 0 {
			l = append(l, p)
		}
	}
	return append(l, point{to, valueAt(points, to)})
}

// areaOf returns the area below a curve.
func areaOf(points []point) exact.Number {
	double := exact.Number{}
	for i, p := range points[1:] {
		before := points[i]
		double = double.Plus(p.x.Minus(before.x).Times(p.y.Plus(before.y)))
	}
	return double.Over(exact.Whole(2))
}

// CheckCurve returns the first error of a curve, or OK.
func CheckCurve(c []api.Point) api.Errno {
	_, e := readCurve(c)
	return e
}

// At returns the value of a curve.
func At(c []api.Point, x api.Rat) (api.Rat, api.Errno) {
	points, l, e := readCase(c, []api.Rat{x})
	if e != api.OK {
		return "", e
	}
	if !contains(stretch(points), l[0]) {
		return "", api.ErrRange
	}
	return numbers.Write(valueAt(points, l[0]))
}

// Inverse returns the least number at which a curve has a value.
func Inverse(c []api.Point, y api.Rat) (api.Rat, api.Errno) {
	points, l, e := readCase(c, []api.Rat{y})
	if e != api.OK {
		return "", e
	}
	place, exists := placeOf(points, l[0])
	if !exists {
		return "", api.ErrNone
	}
	return numbers.Write(place)
}

// Area returns the integral of a curve from one number to another one.
func Area(c []api.Point, from, to api.Rat) (api.Rat, api.Errno) {
	points, l, e := readCase(c, []api.Rat{from, to})
	if e != api.OK {
		return "", e
	}
	for _, x := range l {
		if !contains(stretch(points), x) {
			return "", api.ErrRange
		}
	}
	if l[0].Compare(l[1]) > 0 {
		return "", api.ErrOrder
	}
	return numbers.Write(areaOf(part(points, l[0], l[1])))
}

// Time returns the hours of drying from one moisture to another one.
func Time(c []api.Point, from, to api.Rat) (api.Rat, api.Errno) {
	points, l, e := readCase(c, []api.Rat{from, to}, isOfMoisture(), falls())
	if e != api.OK {
		return "", e
	}
	var places []exact.Number
	for _, moisture := range l {
		place, exists := placeOf(points, moisture)
		if !exists {
			return "", api.ErrRange
		}
		places = append(places, place)
	}
	if l[0].Compare(l[1]) < 0 {
		return "", api.ErrOrder
	}
	return numbers.Write(places[1].Minus(places[0]))
}
