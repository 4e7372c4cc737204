package blend

import (
	"iter"
	"slices"

	"bushel/api"
	"bushel/exact"
	"bushel/numbers"
)

// mostVisits is the number of boxes that a search visits at most: so many are MaxLeaves boxes together with all those that are cut to get them.
const mostVisits = 2*api.MaxLeaves - 1

// search is a search for the best whole blend, and for boxes that prove something about it.
type search struct {
	gated
	*tableau
	best     []int                         // the best whole blend that has been found
	goal     exact.Number                  // its cost, or 0
	isEnough func(bound exact.Number) bool // whether a bound is what boxes have to prove
}

// newSearch returns a search that has found nothing yet.
func newSearch(g gated) *search {
	return &search{gated: g, tableau: g.program()}
}

// visit is a visit of a box, which may be cut into two parts.
type visit struct {
	box
	parts []box
}

// cut cuts a box behind a multiple of a source. The upper part is visited first.
func (v *visit) cut(source, multiple int) {
	lower, upper := slices.Clone(v.box), slices.Clone(v.box)
	lower[source].High, upper[source].Low = multiple, multiple+1
	v.parts = []box{lower, upper}
}

// visits visits the box of all settings, and then the parts of each box that is cut. Where this takes too many boxes, it visits ErrLimit at last.
func (s *search) visits() iter.Seq2[*visit, api.Errno] {
	return func(yield func(*visit, api.Errno) bool) {
		waiting := []box{s.all()}
		for range mostVisits {
			if len(waiting) == 0 {
				return
			}
			v := &visit{box: waiting[len(waiting)-1]}
			waiting = waiting[:len(waiting)-1]
			if !yield(v, api.OK) {
				return
			}
			waiting = append(waiting, v.parts...)
		}
		if len(waiting) > 0 {
			yield(nil, api.ErrLimit)
		}
	}
}

// relax looks for the cheapest amounts in a box, whole or not, with prices that prove them. It returns false, and prices that refute the box, if there are none.
func (s *search) relax(b box) (prices, bool) {
	s.within(s.kilograms(b))
	return s.cheapest(s.tableau)
}

// multiples returns the amounts that were found, as multiples of the step.
func (s *search) multiples() []exact.Number {
	l := s.values(len(s.sources))
	for i := range l {
		l[i] = l[i].Over(exact.Whole(s.step))
	}
	return l
}

// setting returns the amounts that were found as a setting, and false if they are none, or use too many sources.
func (s *search) setting() ([]int, bool) {
	var l []int
	for _, n := range s.multiples() {
		multiple, isWhole := n.Int()
		if !isWhole {
			return nil, false
		}
		l = append(l, multiple)
	}
	return l, !s.isCrowded(single(l))
}

// fraction returns a source whose amount that was found is between two multiples in its range, and the lower one.
func (s *search) fraction(b box) (int, int, bool) {
	for i, n := range s.multiples() {
		below, _ := n.Floor().Int()
		if !n.IsWhole() && below >= b[i].Low && below < b[i].High {
			return i, below, true
		}
	}
	return 0, 0, false
}

// surplus returns a source that is used where too many are, though it need not be, and the multiple 0.
func (s *search) surplus(b box) (int, int, bool) {
	used, first := 0, none
	for i, n := range s.multiples() {
		if n.Sign() > 0 {
			used++
		}
		if n.Sign() > 0 && b[i].Low == 0 && b[i].High > 0 && first == none {
			first = i
		}
	}
	return first, 0, used > s.count && first != none
}

// middle returns the source with the widest range, and a multiple in the middle of it.
func (b box) middle() (int, int, bool) {
	widest := 0
	for i, r := range b {
		if r.High-r.Low > b[widest].High-b[widest].Low {
			widest = i
		}
	}
	r := b[widest]
	return widest, (r.Low + r.High) / 2, r.Low < r.High
}

// divide cuts a box, so that the amounts that were found are in neither part if that is possible. It returns false for a box with a single setting.
func (s *search) divide(v *visit) bool {
	for _, choose := range []func(b box) (int, int, bool){s.fraction, s.surplus, box.middle} {
		if source, multiple, isFound := choose(v.box); isFound {
			v.cut(source, multiple)
			return true
		}
	}
	return false
}

// find looks for the best whole blend.
func (s *search) find() api.Errno {
	if s.mass%s.step > 0 {
		return api.OK
	}
	for v, e := range s.visits() {
		if e != api.OK {
			return e
		}
		if s.isCrowded(v.box) {
			continue
		}
		if _, isSolved := s.relax(v.box); !isSolved {
			continue
		}
		cost := s.variables[s.costAt()].value
		if s.best != nil && cost.Compare(s.goal) >= 0 {
			continue
		}
		if setting, isWhole := s.setting(); isWhole {
			s.best, s.goal = setting, cost
			continue
		}
		s.divide(v)
	}
	return api.OK
}

// prove returns boxes whose bounds are enough. It returns ErrLarge if there are none with short prices.
func (s *search) prove(isEnough func(bound exact.Number) bool) ([]api.Box, api.Errno) {
	s.isEnough = isEnough
	var boxes []api.Box
	for v, e := range s.visits() {
		if e != api.OK {
			return nil, e
		}
		if x, isProved := s.proofOf(v.box); isProved {
			boxes = append(boxes, v.box.with(x))
		} else if !s.divide(v) {
			return nil, api.ErrLarge
		}
	}
	return boxes, api.OK
}

// with returns a box with prices as a result.
func (b box) with(x api.Prices) api.Box {
	result := api.Box{Prices: x}
	for _, r := range b {
		result.Low, result.High = append(result.Low, r.Low), append(result.High, r.High)
	}
	return result
}

// proofOf returns short prices whose bound for a box is enough, if it finds some. A crowded box needs none.
func (s *search) proofOf(b box) (api.Prices, bool) {
	if s.isCrowded(b) {
		result, e := s.writePrices(s.noPrices())
		return result, e == api.OK
	}
	isProof := func(x prices) bool { return s.isEnough(s.boxBound(proof{b, x})) }
	x := s.pricesFor(b)
	if !isProof(x) {
		return api.Prices{}, false
	}
	return s.nearest(x, isProof)
}

// pricesFor returns prices for a box with a great bound.
func (s *search) pricesFor(b box) prices {
	if b.size().Compare(exact.Whole(1)) == 0 {
		return s.pricesForSetting(b)
	}
	x, isSolved := s.relax(b)
	if isSolved {
		return x
	}
	// Without costs, which may be below 0, the bound of these prices is above 0, so that multiples of them are enough; twice as much can be rounded.
	cheapest := s.boxBound(proof{b, s.noPrices()})
	bound := s.problem.withoutCosts().bound(x, s.kilograms(b))
	times := s.goal.Minus(cheapest).Over(bound).Ceiling().Times(exact.Whole(2))
	return x.times(exact.Greater(times, exact.Whole(1)))
}

// pricesForSetting returns prices for a box with a single setting: the bound rises with that by kilogram, one way or the other,
// if the amounts have another mass, and with that of each limit to which they do not keep.
func (s *search) pricesForSetting(b box) prices {
	x := s.noPrices()
	gap := s.goal.Minus(s.boxBound(proof{b, x}))
	for _, r := range s.rises(b, &x) {
		price := exact.Lesser(exact.Greater(gap.Over(r.by).Ceiling(), exact.Whole(1)), numbers.Greatest())
		*r.price = price.Times(exact.Whole(r.sign))
		gap = gap.Minus(price.Times(r.by))
		if gap.Sign() <= 0 {
			break
		}
	}
	return x
}

// rise says by how much a bound rises with a price, in the direction of a sign.
type rise struct {
	price *exact.Number
	sign  int
	by    exact.Number
}

// rises returns the prices with which the bound of a single setting rises, the steepest one first.
func (s *search) rises(b box, x *prices) []rise {
	var setting []int
	for _, r := range b {
		setting = append(setting, r.Low)
	}
	amounts := s.amounts(setting)
	missing := exact.Whole(s.mass).Minus(total(amounts))
	sign := missing.Sign()
	l := []rise{{&x.base, sign, missing.Times(exact.Whole(sign))}}
	for i, limit := range s.limits {
		l = append(l, rise{&x.limits[i], 1, product(limit, amounts)})
	}
	l = slices.DeleteFunc(l, func(r rise) bool { return r.by.Sign() <= 0 })
	slices.SortStableFunc(l, func(a, b rise) int { return b.by.Compare(a.by) })
	return l
}
