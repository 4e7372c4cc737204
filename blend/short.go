package blend

import (
	"iter"

	"bushel/api"
	"bushel/exact"
	"bushel/numbers"
)

// simplest returns the number of an interval that has the least numerator and the least denominator.
func simplest(i numbers.Interval) exact.Number {
	switch {
	case i.Low.Sign() > 0:
		return simplestAbove(i.Low, i.High)
	case i.High.Sign() < 0:
		return simplestAbove(i.High.Negated(), i.Low.Negated()).Negated()
	}
	return exact.Number{}
}

// simplestAbove does the same for an interval above 0.
func simplestAbove(low, high exact.Number) exact.Number {
	whole := low.Ceiling()
	if whole.Compare(high) <= 0 {
		return whole
	}
	// Both ends lie between the same integers, and what they exceed the lower one by has a simple inverse.
	floor, one := low.Floor(), exact.Whole(1)
	rest := simplestAbove(one.Over(high.Minus(floor)), one.Over(low.Minus(floor)))
	return floor.Plus(one.Over(rest))
}

// inner returns an interval without its ends and what is near to them.
func inner(i numbers.Interval) numbers.Interval {
	margin := exact.Lesser(i.High.Minus(i.Low).Over(exact.Whole(4)), exact.Whole(1))
	return numbers.Interval{Low: i.Low.Plus(margin), High: i.High.Minus(margin)}
}

// choose chooses the first variables of a tableau that is settled one after another, and returns false if one of them gets too long.
func (t *tableau) choose(count int, choice func(i numbers.Interval) exact.Number) bool {
	for v := range count {
		value := choice(t.extent(v))
		if _, e := numbers.Write(value); e != api.OK {
			return false
		}
		t.keep(v, at(value), at(value))
		t.settle()
	}
	return true
}

// short returns values of the first variables of a tableau that is settled, none of which is too long, and false if it does not find any.
func (t *tableau) short(count int) ([]exact.Number, bool) {
	// Numbers behind the ends leave room to those that are chosen later, but some fit together only at the ends.
	inside := func(i numbers.Interval) exact.Number { return simplest(inner(i)) }
	for _, choice := range []func(i numbers.Interval) exact.Number{simplest, inside} {
		if u := t.clone(); u.choose(count, choice) {
			return u.values(count), true
		}
	}
	return nil, false
}

// shortAmounts returns amounts that cost no more than those of a program that has been brought to its least cost, and ErrLarge if it finds only long ones.
func (p problem) shortAmounts(t *tableau) ([]api.Rat, api.Errno) {
	amounts := t.values(len(p.sources))
	texts, e := numbers.Each(amounts, numbers.Write)
	if e == api.OK {
		return texts, api.OK
	}
	t.keep(p.costAt(), end{}, at(t.variables[p.costAt()].value))
	amounts, isShort := t.short(len(p.sources))
	if !isShort {
		return nil, api.ErrLarge
	}
	return numbers.Each(amounts, numbers.Write)
}

// shortPrices returns prices with the same bound as given ones, than which there is no greater one, and ErrLarge if it finds only long ones.
func (p problem) shortPrices(given prices) (api.Prices, api.Errno) {
	if result, e := p.writePrices(given); e == api.OK {
		return result, api.OK
	}
	t := p.priceProgram(p.bound(given, p.stocks()))
	if _, isSettled := t.settle(); !isSettled {
		return api.Prices{}, api.ErrLarge
	}
	base := len(p.limits)
	values, isShort := t.short(base + 1)
	if !isShort {
		return api.Prices{}, api.ErrLarge
	}
	return p.writePrices(prices{values[base], values[:base]})
}

// rounded returns prices that differ from given ones by a part of each at the most.
func (x prices) rounded(part exact.Number) prices {
	round := func(n exact.Number) exact.Number {
		margin := n.Times(part).Times(exact.Whole(n.Sign()))
		return simplest(numbers.Interval{Low: n.Minus(margin), High: n.Plus(margin)})
	}
	result := prices{base: round(x.base)}
	for _, price := range x.limits {
		result.limits = append(result.limits, round(price))
	}
	return result
}

// near visits prices, and then shorter ones, each nearer to them than those before.
func (x prices) near() iter.Seq[prices] {
	return func(yield func(prices) bool) {
		if !yield(x) {
			return
		}
		part := exact.Whole(1).Over(exact.Whole(1000))
		// The parts are 10 to the powers of -3, -12, -48, -192 and -768: the last one makes numbers of about as many digits as there may be.
		for range 5 {
			if !yield(x.rounded(part)) {
				return
			}
			part = part.Times(part).Times(part.Times(part))
		}
	}
}

// nearest returns the first prices near to given ones that are short and prove something.
func (p problem) nearest(given prices, isProof func(x prices) bool) (api.Prices, bool) {
	for x := range given.near() {
		if result, e := p.writePrices(x); e == api.OK && isProof(x) {
			return result, true
		}
	}
	return api.Prices{}, false
}
