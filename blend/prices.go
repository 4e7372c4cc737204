package blend

import (
	"slices"

	"bushel/api"
	"bushel/exact"
	"bushel/numbers"
)

// prices are prices of a problem that have been read: a price by kilogram, and one of each limit that the order has.
type prices struct {
	base   exact.Number
	limits []exact.Number
}

// readPrices returns prices, or their error.
func (p problem) readPrices(given api.Prices) (prices, api.Errno) {
	if len(given.Most) != len(p.most) || len(given.Least) != len(p.least) {
		return prices{}, api.ErrShape
	}
	base, e := numbers.Read(given.Base)
	if e != api.OK {
		return prices{}, e
	}
	all, e := numbers.Each(slices.Concat(given.Most, given.Least), numbers.Read)
	if e != api.OK {
		return prices{}, e
	}
	if slices.ContainsFunc(all, func(n exact.Number) bool { return n.Sign() < 0 }) {
		return prices{}, api.ErrRange
	}
	limits := eachLimit(p, func(factor int, isLeast bool) exact.Number {
		if isLeast {
			return all[len(p.most)+factor]
		}
		return all[factor]
	})
	return prices{base, limits}, api.OK
}

// writePrices returns prices as a result.
func (p problem) writePrices(x prices) (api.Prices, api.Errno) {
	base, e := numbers.Write(x.base)
	if e != api.OK {
		return api.Prices{}, e
	}
	limits, e := numbers.Each(x.limits, numbers.Write)
	if e != api.OK {
		return api.Prices{}, e
	}
	result := api.Prices{Base: base, Most: slices.Repeat([]api.Rat{"0"}, len(p.most)), Least: slices.Repeat([]api.Rat{"0"}, len(p.least))}
	places := eachLimit(p, func(factor int, isLeast bool) *api.Rat {
		if isLeast {
			return &result.Least[factor]
		}
		return &result.Most[factor]
	})
	for i, place := range places {
		*place = limits[i]
	}
	return result, api.OK
}

// noPrices returns prices that are all 0.
func (p problem) noPrices() prices {
	return prices{limits: make([]exact.Number, len(p.limits))}
}

// times returns prices times a number that is not negative.
func (x prices) times(n exact.Number) prices {
	result := prices{base: x.base.Times(n)}
	for _, price := range x.limits {
		result.limits = append(result.limits, price.Times(n))
	}
	return result
}

// reduced returns the reduced cost of a source.
func (p problem) reduced(x prices, number int) exact.Number {
	cost := p.sources[number].cost.Minus(x.base)
	for i, l := range p.limits {
		cost = cost.Plus(x.limits[i].Times(l[number]))
	}
	return cost
}

// bound returns the bound of prices for amounts in ranges: no blend with such amounts costs less.
func (p problem) bound(x prices, amounts []api.Range) exact.Number {
	sum := x.base.Times(exact.Whole(p.mass))
	for i, r := range amounts {
		reduced := p.reduced(x, i)
		amount := r.Low
		if reduced.Sign() < 0 {
			amount = r.High
		}
		sum = sum.Plus(reduced.Times(exact.Whole(amount)))
	}
	return sum
}
