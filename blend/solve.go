package blend

import (
	"slices"

	"bushel/api"
	"bushel/exact"
	"bushel/numbers"
)

// Solve returns a blend of the least cost, and prices that prove it.
func Solve(sources []api.Source, order api.Order) ([]api.Rat, api.Prices, api.Errno) {
	p, e := readProblem(sources, order)
	if e != api.OK {
		return nil, api.Prices{}, e
	}
	t := p.program()
	x, isSolved := p.cheapest(t)
	if !isSolved {
		return nil, api.Prices{}, api.ErrInfeasible
	}
	prices, e := p.shortPrices(x)
	if e != api.OK {
		return nil, api.Prices{}, e
	}
	amounts, e := p.shortAmounts(t)
	if e != api.OK {
		return nil, api.Prices{}, e
	}
	return amounts, prices, api.OK
}

// Value returns the least cost of a blend.
func Value(sources []api.Source, order api.Order) (api.Rat, api.Errno) {
	p, e := readProblem(sources, order)
	if e != api.OK {
		return "", e
	}
	t := p.program()
	if _, isSolved := p.cheapest(t); !isSolved {
		return "", api.ErrInfeasible
	}
	return numbers.Write(t.variables[p.costAt()].value)
}

// CheckSolved returns OK if prices prove that a blend has the least cost.
func CheckSolved(sources []api.Source, order api.Order, amounts []api.Rat, prices api.Prices) api.Errno {
	p, e := readProblem(sources, order)
	if e != api.OK {
		return e
	}
	read, e := readAmounts(amounts, len(sources))
	if e != api.OK {
		return e
	}
	x, e := p.readPrices(prices)
	if e != api.OK {
		return e
	}
	if !p.isBlend(read) || p.bound(x, p.stocks()).Compare(p.cost(read)) < 0 {
		return api.ErrProof
	}
	return api.OK
}

// Refute returns prices that prove that there is no blend.
func Refute(sources []api.Source, order api.Order) (api.Prices, api.Errno) {
	p, e := readProblem(sources, order)
	if e != api.OK {
		return api.Prices{}, e
	}
	p = p.withoutCosts()
	x, isSolved := p.cheapest(p.program())
	if isSolved {
		return api.Prices{}, api.ErrNone
	}
	// Multiples of the prices prove the same: some are shorter than others.
	greatest, one := slices.MaxFunc(append(slices.Clone(x.limits), x.base), exact.Number.Compare), exact.Whole(1)
	for _, times := range []exact.Number{one, one.Over(greatest), numbers.Greatest().Over(greatest)} {
		result, isFound := p.nearest(x.times(times), func(x prices) bool { return isAbove0(p.bound(x, p.stocks())) })
		if isFound {
			return result, api.OK
		}
	}
	return api.Prices{}, api.ErrLarge
}

// CheckRefuted returns OK if prices prove that there is no blend.
func CheckRefuted(sources []api.Source, order api.Order, prices api.Prices) api.Errno {
	p, e := readProblem(sources, order)
	if e != api.OK {
		return e
	}
	x, e := p.readPrices(prices)
	if e != api.OK {
		return e
	}
	if p.withoutCosts().bound(x, p.stocks()).Sign() <= 0 {
		return api.ErrProof
	}
	return api.OK
}

// Amounts returns the least and the greatest amount of a source in all blends.
func Amounts(sources []api.Source, order api.Order, s int) (api.Span, api.Errno) {
	p, e := readProblem(sources, order)
	if e != api.OK {
		return api.Span{}, e
	}
	if s < 0 || s >= len(sources) {
		return api.Span{}, api.ErrUnknown
	}
	t := p.program()
	if _, isSettled := t.settle(); !isSettled {
		return api.Span{}, api.ErrInfeasible
	}
	return numbers.WriteSpan(t.extent(s))
}
