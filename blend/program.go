package blend

import (
	"bushel/api"
	"bushel/exact"
	"bushel/numbers"
)

// The variables of the linear program of a problem are the amounts, their sum, the sum of the excesses for each limit, and the cost.

// sumAt, limitsAt and costAt return the numbers of the variables behind the amounts.
func (p problem) sumAt() int    { return len(p.sources) }
func (p problem) limitsAt() int { return p.sumAt() + 1 }
func (p problem) costAt() int   { return p.limitsAt() + len(p.limits) }

// program returns the linear program of the amounts of blends.
func (p problem) program() *tableau {
	var ones []exact.Number
	for range p.sources {
		ones = append(ones, exact.Whole(1))
	}
	rows := [][]exact.Number{ones}
	for _, l := range p.limits {
		rows = append(rows, l)
	}
	t := newTableau(append(rows, costs(p.sources)))
	mass := at(exact.Whole(p.mass))
	t.keep(p.sumAt(), mass, mass)
	for i := range p.limits {
		t.keep(p.limitsAt()+i, end{}, at(exact.Number{}))
	}
	t.within(p.stocks())
	return t
}

// within keeps the first variables in ranges.
func (t *tableau) within(amounts []api.Range) {
	for i, r := range amounts {
		t.keep(i, at(exact.Whole(r.Low)), at(exact.Whole(r.High)))
	}
}

// pricesOf returns the prices that factors of the variables of the program are.
// A limit has only an upper end, so the least cost rises as the sum of its excesses falls: its factor is at most 0.
func (p problem) pricesOf(factors []exact.Number) prices {
	x := prices{base: factors[p.sumAt()]}
	for i := range p.limits {
		x.limits = append(x.limits, factors[p.limitsAt()+i].Negated())
	}
	return x
}

// cheapest brings a program to its least cost, and returns prices that prove it.
// If the program has no solution, it returns false, and prices that prove that if all costs are 0.
func (p problem) cheapest(t *tableau) (prices, bool) {
	if contradiction, isSettled := t.settle(); !isSettled {
		return p.pricesOf(contradiction), false
	}
	// The amounts have ends, so that something always stops the cost.
	t.push(p.costAt(), down)
	return p.pricesOf(t.factors(p.costAt())), true
}

// priceProgram returns the linear program of the prices whose bound is at least a number, and which are not too long in any case.
// Its variables are the prices of the limits, the price by kilogram, for each source a shortfall, which is at least what its reduced cost is below 0,
// and behind these the differences between both, and the bound.
func (p problem) priceProgram(least exact.Number) *tableau {
	base, shortfalls := len(p.limits), len(p.limits)+1
	bound := make([]exact.Number, shortfalls+len(p.sources))
	bound[base] = exact.Whole(p.mass)
	var rows [][]exact.Number
	for i, s := range p.sources {
		row := make([]exact.Number, len(bound))
		for k, l := range p.limits {
			row[k] = l[i]
		}
		row[base], row[shortfalls+i] = exact.Whole(-1), exact.Whole(1)
		bound[shortfalls+i] = exact.Whole(-s.stock)
		rows = append(rows, row)
	}
	t := newTableau(append(rows, bound))
	zero, greatest := exact.Number{}, numbers.Greatest()
	for k := range p.limits {
		t.keep(k, at(zero), at(greatest))
	}
	t.keep(base, at(greatest.Negated()), at(greatest))
	for i, s := range p.sources {
		t.keep(shortfalls+i, at(zero), end{})
		t.keep(len(bound)+i, at(s.cost.Negated()), end{})
	}
	t.keep(len(bound)+len(p.sources), at(least), end{})
	return t
}
