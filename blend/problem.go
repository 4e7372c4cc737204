package blend

import (
	"bushel/api"
	"bushel/exact"
	"bushel/numbers"
)

// source is a source that has been read.
type source struct {
	stock   int
	cost    exact.Number
	quality []numbers.Interval
}

// problem is an order with its sources.
type problem struct {
	sources []source
	mass    int
	least   []end
	most    []end
	limits  []excesses
}

// excesses say for each source by how much it exceeds a limit, or falls short of one, at the worst.
// A mixture keeps to the limit exactly if the excesses, weighted with the amounts, are at most 0 together.
type excesses []exact.Number

// readSource returns a source with so many factors, or its first error.
func readSource(s api.Source, factors int) (source, api.Errno) {
	if s.Stock < 0 || s.Stock > api.MaxMass {
		return source{}, api.ErrRange
	}
	cost, e := numbers.Read(s.Cost)
	if e != api.OK {
		return source{}, e
	}
	if len(s.Quality) != factors {
		return source{}, api.ErrShape
	}
	quality, e := numbers.Each(s.Quality, numbers.ReadSpan)
	if e != api.OK {
		return source{}, e
	}
	return source{s.Stock, cost, quality}, api.OK
}

// readSources returns sources with so many factors, or their first error.
func readSources(l []api.Source, factors int) ([]source, api.Errno) {
	return numbers.Each(l, func(s api.Source) (source, api.Errno) { return readSource(s, factors) })
}

// readLimit returns a limit of an order, or its error as a number; an empty text is no limit.
func readLimit(a api.Rat) (end, api.Errno) {
	if a == "" {
		return end{}, api.OK
	}
	n, e := numbers.Read(a)
	if e != api.OK {
		return end{}, e
	}
	return at(n), api.OK
}

// readProblem returns an order with its sources, or the error of Check.
func readProblem(sources []api.Source, order api.Order) (problem, api.Errno) {
	switch {
	case len(sources) == 0:
		return problem{}, api.ErrShape
	case len(sources) > api.MaxSources, len(order.Least) > api.MaxFactors:
		return problem{}, api.ErrMany
	case len(order.Most) != len(order.Least):
		return problem{}, api.ErrShape
	}
	read, e := readSources(sources, len(order.Least))
	if e != api.OK {
		return problem{}, e
	}
	if order.Mass < 1 || order.Mass > api.MaxMass {
		return problem{}, api.ErrRange
	}
	least, e := numbers.Each(order.Least, readLimit)
	if e != api.OK {
		return problem{}, e
	}
	most, e := numbers.Each(order.Most, readLimit)
	if e != api.OK {
		return problem{}, e
	}
	p := problem{sources: read, mass: order.Mass, least: least, most: most}
	p.limits = eachLimit(p, p.excesses)
	return p, api.OK
}

// eachLimit returns what a function makes of each limit that an order has: of the greatest values of factors, and then of the least ones.
func eachLimit[T any](p problem, convert func(factor int, isLeast bool) T) []T {
	var l []T
	for factor, limit := range p.most {
		if limit.isSet {
			l = append(l, convert(factor, false))
		}
	}
	for factor, limit := range p.least {
		if limit.isSet {
			l = append(l, convert(factor, true))
		}
	}
	return l
}

// excesses returns the excesses over the greatest value of a factor, or below its least one.
func (p problem) excesses(factor int, isLeast bool) excesses {
	var l excesses
	for _, s := range p.sources {
		if isLeast {
			l = append(l, p.least[factor].at.Minus(s.quality[factor].Low))
		} else {
			l = append(l, s.quality[factor].High.Minus(p.most[factor].at))
		}
	}
	return l
}

// withoutCosts returns a problem with the same blends, all of which have the cost 0.
func (p problem) withoutCosts() problem {
	var free []source
	for _, s := range p.sources {
		free = append(free, source{stock: s.stock, quality: s.quality})
	}
	p.sources = free
	return p
}

// readAmounts returns amounts of so many sources, or their error.
func readAmounts(l []api.Rat, count int) ([]exact.Number, api.Errno) {
	if len(l) != count {
		return nil, api.ErrShape
	}
	return numbers.Each(l, numbers.Read)
}

// product returns the sum of the products of numbers in the same places.
func product(a, b []exact.Number) exact.Number {
	sum := exact.Number{}
	for i := range a {
		sum = sum.Plus(a[i].Times(b[i]))
	}
	return sum
}

// total returns the sum of numbers.
func total(l []exact.Number) exact.Number {
	sum := exact.Number{}
	for _, n := range l {
		sum = sum.Plus(n)
	}
	return sum
}

// costs returns the costs of sources by kilogram.
func costs(sources []source) []exact.Number {
	var l []exact.Number
	for _, s := range sources {
		l = append(l, s.cost)
	}
	return l
}

// cost returns the cost of amounts.
func (p problem) cost(amounts []exact.Number) exact.Number {
	return product(costs(p.sources), amounts)
}

// isBlend reports whether amounts are a blend.
func (p problem) isBlend(amounts []exact.Number) bool {
	for i, s := range p.sources {
		if amounts[i].Sign() < 0 || amounts[i].Compare(exact.Whole(s.stock)) > 0 {
			return false
		}
	}
	if total(amounts).Compare(exact.Whole(p.mass)) != 0 {
		return false
	}
	for _, l := range p.limits {
		if product(l, amounts).Sign() > 0 {
			return false
		}
	}
	return true
}

// stocks returns the amounts that the sources can give.
func (p problem) stocks() []api.Range {
	var l []api.Range
	for _, s := range p.sources {
		l = append(l, api.Range{High: s.stock})
	}
	return l
}
