package grade

import (
	"slices"

	"bushel/api"
	"bushel/exact"
	"bushel/measure"
	"bushel/numbers"
)

// Sizes of patterns.
const (
	leastCount   = 5      // probes of the smallest load
	moreProbes   = 3      // further probes for each further massOfProbes
	massOfProbes = 15000  // kilograms
	mostSide     = 100000 // centimetres
	mostRows     = 8      // of a grid
)

// Count returns the number of probes that a load needs.
func Count(mass int) (int, api.Errno) {
	if mass < 1 || mass > api.MaxMass {
		return 0, api.ErrRange
	}
	return min(leastCount+moreProbes*((mass-1)/massOfProbes), api.MaxPoints), api.OK
}

// fraction is a part of the length or the width of a rectangle.
type fraction struct {
	top    int
	bottom int
}

// spot is a point of a rectangle, whatever its size is.
type spot struct {
	x fraction
	y fraction
}

// pattern is a kind of patterns: the numbers that it permits, and its spots for a number, ordered by x and then by y.
type pattern struct {
	least int
	most  int
	spots func(n int) []spot
}

// patternsByKind returns the kinds of patterns.
func patternsByKind() map[string]pattern {
	return map[string]pattern{
		"line":     {1, api.MaxPoints, spotsOfLine},
		"zigzag":   {1, api.MaxPoints, spotsOfZigzag},
		"grid":     {1, mostRows, spotsOfGrid},
		"quincunx": {5, 5, spotsOfQuincunx},
	}
}

// middle returns the middle of the part with the number i, if a side is divided into n equal parts.
func middle(i, n int) fraction {
	return fraction{2*i + 1, 2 * n}
}

// spotsOfLine returns the middles of n parts, on the line halfway up.
func spotsOfLine(n int) []spot {
	var l []spot
	for i := range n {
		l = append(l, spot{middle(i, n), fraction{1, 2}})
	}
	return l
}

// spotsOfZigzag returns the middles of n parts, by turns at one third and two thirds of the width.
func spotsOfZigzag(n int) []spot {
	var l []spot
	for i := range n {
		l = append(l, spot{middle(i, n), fraction{1 + i%2, 3}})
	}
	return l
}

// spotsOfGrid returns the middles of n times n parts.
func spotsOfGrid(n int) []spot {
	var l []spot
	for i := range n {
		for k := range n {
			l = append(l, spot{middle(i, n), middle(k, n)})
		}
	}
	return l
}

// spotsOfQuincunx returns the centre and the centres of the four quarters.
func spotsOfQuincunx(int) []spot {
	near, centre, far := fraction{1, 4}, fraction{1, 2}, fraction{3, 4}
	return []spot{{near, near}, {near, far}, {centre, centre}, {far, near}, {far, far}}
}

// Pattern returns the probes of a pattern on a rectangle.
func Pattern(kind string, n, length, width int) ([]api.Probe, api.Errno) {
	p, isKind := patternsByKind()[kind]
	if !isKind {
		return nil, api.ErrKind
	}
	if n < p.least || n > p.most || !isSide(length) || !isSide(width) {
		return nil, api.ErrRange
	}
	var probes []api.Probe
	for _, s := range p.spots(n) {
		probes = append(probes, api.Probe{X: s.x.of(length), Y: s.y.of(width), Weight: 1})
	}
	return probes, api.OK
}

// isSide reports whether a rectangle may have a side of this size.
func isSide(size int) bool {
	return size >= 1 && size <= mostSide
}

// of returns the part of a side.
func (f fraction) of(side int) api.Rat {
	// An error is not possible: the denominator is not 0, and the numbers are short.
	part, _ := measure.Of(f.top*side, f.bottom)
	return part
}

// readProbes returns where probes on a rectangle are, or their first error.
func readProbes(l []api.Probe, length, width int) ([]place, api.Errno) {
	switch {
	case !isSide(length) || !isSide(width):
		return nil, api.ErrRange
	case len(l) == 0:
		return nil, api.ErrShape
	case len(l) > api.MaxPoints:
		return nil, api.ErrMany
	}
	var earlier []point
	return numbers.Each(l, func(p api.Probe) (place, api.Errno) {
		at, e := readProbe(p, length, width)
		if e != api.OK {
			return place{}, e
		}
		here := point{string(p.X), string(p.Y)}
		if slices.Contains(earlier, here) {
			return place{}, api.ErrTwice
		}
		earlier = append(earlier, here)
		return at, api.OK
	})
}

// readProbe returns where a probe on a rectangle is, or its first error.
func readProbe(p api.Probe, length, width int) (place, api.Errno) {
	at, e := numbers.Each([]api.Rat{p.X, p.Y}, numbers.Read)
	if e != api.OK {
		return place{}, e
	}
	if !isOn(at[0], length) || !isOn(at[1], width) || p.Weight < 1 || p.Weight > api.MaxNumber {
		return place{}, api.ErrRange
	}
	return place{at[0], at[1]}, api.OK
}

// isOn reports whether a coordinate is one of a point of a rectangle with this side.
func isOn(coordinate exact.Number, side int) bool {
	return coordinate.Sign() >= 0 && coordinate.Compare(exact.Whole(side)) <= 0
}

// CheckProbes returns the first error of probes on a rectangle, or OK.
func CheckProbes(l []api.Probe, length, width int) api.Errno {
	_, e := readProbes(l, length, width)
	return e
}
