package grade

import (
	"slices"

	"bushel/api"
	"bushel/exact"
	"bushel/numbers"
)

// Gap returns the greatest squared distance of a point of a rectangle from the nearest probe.
func Gap(l []api.Probe, length, width int) (api.Rat, api.Errno) {
	probes, e := readProbes(l, length, width)
	if e != api.OK {
		return "", e
	}
	return numbers.Write(gapOf(probes, cornersOfRectangle(length, width)))
}

// cornersOfRectangle returns the corners of a rectangle in the order of a walk around it.
func cornersOfRectangle(length, width int) []place {
	left, right := exact.Whole(0), exact.Whole(length)
	low, high := exact.Whole(0), exact.Whole(width)
	return []place{{left, low}, {right, low}, {right, high}, {left, high}}
}

// gapOf returns the gap of probes on a rectangle: every point of the rectangle is in the cell of its nearest probe,
// and of the points of a cell, which has no dents, a corner is the farthest one from the probe.
func gapOf(probes, rectangle []place) exact.Number {
	gap := exact.Number{}
	var seen []point
	for _, probe := range probes {
		for _, c := range cellOf(probe, neighboursOf(probe, probes), rectangle) {
			at := c.point()
			// Cells that share a corner have their probes equally far from it.
			if slices.Contains(seen, at) {
				continue
			}
			seen = append(seen, at)
			gap = exact.Greater(gap, c.minus(probe).square())
		}
	}
	return gap
}

// neighbour is another probe, with its squared distance.
type neighbour struct {
	at      place
	squared exact.Number
}

// neighboursOf returns the probes but one as its neighbours, the nearest one first.
func neighboursOf(probe place, probes []place) []neighbour {
	var l []neighbour
	for _, other := range probes {
		l = append(l, neighbour{other, other.minus(probe).square()})
	}
	slices.SortFunc(l, func(a, b neighbour) int { return a.squared.Compare(b.squared) })
	// The first one is the probe itself.
	return l[1:]
}

// cellOf returns the corners of the cell of a probe in the order of a walk around it: of the points of the rectangle to which no neighbour is nearer.
func cellOf(probe place, neighbours []neighbour, rectangle []place) []place {
	cell := rectangle
	for _, other := range neighbours {
		// The border is halfway to the neighbour. Where it is beyond all corners, those of the next neighbours are so too.
		halfway := other.squared.Over(exact.Whole(4))
		isFarther := func(c place) bool { return c.minus(probe).square().Compare(halfway) > 0 }
		if !slices.ContainsFunc(cell, isFarther) {
			break
		}
		cell = borderBetween(probe, other.at).cut(cell)
	}
	return cell
}

// border is the border of a probe's side, which has the places whose product with across is at most bound.
type border struct {
	across place
	bound  exact.Number
}

// borderBetween returns the border of the places that are not farther from a probe than from another one.
func borderBetween(probe, other place) border {
	// |c - probe|² <= |c - other|² says that c times (other - probe) is at most (|other|² - |probe|²) / 2.
	two := exact.Whole(2)
	across := other.minus(probe)
	return border{across, other.square().Minus(probe.square()).Over(two)}
}

// inside returns how far inside a place is: 0 on the border, and below 0 beyond it.
func (b border) inside(c place) exact.Number {
	return b.bound.Minus(b.across.times(c))
}

// cut returns the corners of what a border leaves of a cell.
func (b border) cut(cell []place) []place {
	var depths []exact.Number
	for _, c := range cell {
		depths = append(depths, b.inside(c))
	}
	var left []place
	for i, c := range cell {
		k := (i + 1) % len(cell)
		if depths[i].Sign() >= 0 {
			left = append(left, c)
		}
		if depths[i].Sign()*depths[k].Sign() < 0 {
			left = append(left, crossing(c, cell[k], depths[i], depths[k]))
		}
	}
	return left
}

// crossing returns the place on the border between two places that are on different sides of it, so far inside.
func crossing(a, b place, depthA, depthB exact.Number) place {
	part := depthA.Over(depthA.Minus(depthB))
	way := b.minus(a)
	return place{a.x.Plus(way.x.Times(part)), a.y.Plus(way.y.Times(part))}
}
