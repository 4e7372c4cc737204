package blend

import (
	"iter"
	"slices"

	"bushel/api"
	"bushel/exact"
)

// gated is a problem whose amounts are settings of gates.
type gated struct {
	problem
	step  int
	count int // how many sources may be used
}

// box is for each source the range of its multiples.
type box []api.Range

// proof is a box with its prices.
type proof struct {
	box
	prices
}

// readGated returns a problem with its gates, or the error of both.
func readGated(sources []api.Source, order api.Order, gates api.Gates) (gated, api.Errno) {
	p, e := readProblem(sources, order)
	if e != api.OK {
		return gated{}, e
	}
	if gates.Step < 1 || gates.Step > api.MaxMass || gates.Most < 0 || gates.Most > api.MaxSources {
		return gated{}, api.ErrRange
	}
	return gated{p, gates.Step, gates.Most}, api.OK
}

// withoutCosts returns a problem with the same whole blends, all of which have the cost 0.
func (g gated) withoutCosts() gated {
	return gated{g.problem.withoutCosts(), g.step, g.count}
}

// all returns the box of all settings.
func (g gated) all() box {
	var b box
	for _, s := range g.sources {
		b = append(b, api.Range{High: s.stock / g.step})
	}
	return b
}

// size returns the number of settings of a box.
func (b box) size() exact.Number {
	size := exact.Whole(1)
	for _, r := range b {
		size = size.Times(exact.Whole(r.High - r.Low + 1))
	}
	return size
}

// isLarge reports whether there are more settings than a search is sure to look at.
func (g gated) isLarge() bool {
	return g.all().size().Compare(exact.Whole(api.MaxLeaves)) > 0
}

// meets reports whether two boxes have a setting in common.
func (b box) meets(other box) bool {
	for i, r := range b {
		if r.High < other[i].Low || other[i].High < r.Low {
			return false
		}
	}
	return true
}

// kilograms returns the amounts of the settings of a box.
func (g gated) kilograms(b box) []api.Range {
	var l []api.Range
	for _, r := range b {
		l = append(l, api.Range{Low: r.Low * g.step, High: r.High * g.step})
	}
	return l
}

// boxBound returns the bound of a box.
func (g gated) boxBound(b proof) exact.Number {
	return g.bound(b.prices, g.kilograms(b.box))
}

// isCrowded reports whether all settings of a box use too many sources.
func (g gated) isCrowded(b box) bool {
	used := 0
	for _, r := range b {
		if r.Low > 0 {
			used++
		}
	}
	return used > g.count
}

// isSetting reports whether multiples are a setting that can be made.
func (g gated) isSetting(multiples []int) bool {
	for i, r := range g.all() {
		if multiples[i] < r.Low || multiples[i] > r.High {
			return false
		}
	}
	return true
}

// amounts returns the amounts of a setting that can be made.
func (g gated) amounts(setting []int) []exact.Number {
	var l []exact.Number
	for _, multiple := range setting {
		l = append(l, exact.Whole(multiple*g.step))
	}
	return l
}

// single returns the box of a setting alone.
func single(setting []int) box {
	var b box
	for _, multiple := range setting {
		b = append(b, api.Range{Low: multiple, High: multiple})
	}
	return b
}

// isWhole reports whether multiples are a whole blend.
func (g gated) isWhole(multiples []int) bool {
	return g.isSetting(multiples) && !g.isCrowded(single(multiples)) && g.isBlend(g.amounts(multiples))
}

// readBox returns a box, or its error.
func (g gated) readBox(given api.Box) (proof, api.Errno) {
	if len(given.Low) != len(g.sources) || len(given.High) != len(g.sources) {
		return proof{}, api.ErrShape
	}
	var b box
	for i, r := range g.all() {
		low, high := given.Low[i], given.High[i]
		if low < r.Low || low > high || high > r.High {
			return proof{}, api.ErrRange
		}
		b = append(b, api.Range{Low: low, High: high})
	}
	x, e := g.readPrices(given.Prices)
	if e != api.OK {
		return proof{}, e
	}
	return proof{b, x}, api.OK
}

// readBoxes returns boxes, or their first error.
func (g gated) readBoxes(given []api.Box) ([]proof, api.Errno) {
	if len(given) > api.MaxLeaves {
		return nil, api.ErrMany
	}
	var l []proof
	for _, one := range given {
		b, e := g.readBox(one)
		if e != api.OK {
			return nil, e
		}
		l = append(l, b)
	}
	return l, api.OK
}

// areComplete reports whether boxes are complete.
func (g gated) areComplete(l []proof) bool {
	sum := exact.Number{}
	for i, b := range l {
		if slices.ContainsFunc(l[:i], func(other proof) bool { return b.meets(other.box) }) {
			return false
		}
		sum = sum.Plus(b.size())
	}
	return sum.Compare(g.all().size()) == 0
}

// proves reports whether boxes are complete, and the bounds of all that are not crowded are enough.
func (g gated) proves(l []proof, isEnough func(bound exact.Number) bool) bool {
	return g.areComplete(l) && !slices.ContainsFunc(l, func(b proof) bool {
		return !g.isCrowded(b.box) && !isEnough(g.boxBound(b))
	})
}

// settings visits all settings in ascending order.
func (g gated) settings() iter.Seq[[]int] {
	return func(yield func([]int) bool) {
		all := g.all()
		setting := make([]int, len(all))
		for yield(slices.Clone(setting)) {
			last := len(all) - 1
			for last >= 0 && setting[last] == all[last].High {
				setting[last] = 0
				last--
			}
			if last < 0 {
				return
			}
			setting[last]++
		}
	}
}
