package blend_test

import (
	"fmt"
	"math/big"
	"math/rand"
	"reflect"
	"slices"
	"strings"
	"testing"

	"bushel/api"
	"bushel/blend"
)

// expect reports a result that is not the expected one.
func expect(t *testing.T, what string, got, want any) {
	t.Helper()
	if !reflect.DeepEqual(got, want) {
		t.Errorf("%.600s: got %.300s, want %.300s", what, fmt.Sprint(got), fmt.Sprint(want))
	}
}

// expectList reports a list that is not the expected one; nil and empty lists are equal.
func expectList[T any](t *testing.T, what string, got, want []T) {
	t.Helper()
	if len(got) > 0 || len(want) > 0 {
		expect(t, what, got, want)
	}
}

// ok returns a result that has no error.
func ok[T any](t *testing.T, what string) func(T, api.Errno) T {
	return func(x T, e api.Errno) T {
		t.Helper()
		if e != api.OK {
			t.Fatalf("%.600s: error %d", what, e)
		}
		return x
	}
}

// nines returns the greatest number with so many digits.
func nines(digits int) api.Rat { return api.Rat(strings.Repeat("9", digits)) }

// power returns 1 with so many zeros behind it.
func power(zeros int) api.Rat { return "1" + api.Rat(strings.Repeat("0", zeros)) }

// span returns a span.
func span(low, high api.Rat) api.Span { return api.Span{Low: low, High: high} }

// source returns a source with intervals, as Low and High one after another.
func source(stock int, cost api.Rat, ends ...api.Rat) api.Source {
	s := api.Source{Stock: stock, Cost: cost}
	for pair := range slices.Chunk(ends, 2) {
		s.Quality = append(s.Quality, span(pair[0], pair[1]))
	}
	return s
}

// example and exampleOrder are the sources and the order of the document's examples.
func example() []api.Source {
	return []api.Source{source(100, "2", "12", "12"), source(100, "1", "15", "16")}
}

func exampleOrder() api.Order { return atMost(100, "14") }

// atMost returns an order with greatest values of factors alone.
func atMost(mass int, most ...api.Rat) api.Order {
	return api.Order{Mass: mass, Least: make([]api.Rat, len(most)), Most: most}
}

// toBig returns a number of math/big, which is the judge of these tests.
func toBig(a api.Rat) *big.Rat {
	r, ok := new(big.Rat).SetString(string(a))
	if !ok {
		panic("not a number: " + string(a))
	}
	return r
}

// toBigs returns numbers of math/big.
func toBigs(l []api.Rat) []*big.Rat {
	var bigs []*big.Rat
	for _, a := range l {
		bigs = append(bigs, toBig(a))
	}
	return bigs
}

// ofBig returns a number as a text.
func ofBig(r *big.Rat) api.Rat { return api.Rat(r.RatString()) }

// isShort reports whether a number keeps to the limit of digits.
func isShort(r *big.Rat) bool {
	return len(new(big.Int).Abs(r.Num()).String()) <= api.MaxDigits && len(r.Denom().String()) <= api.MaxDigits
}

// result returns what a number is as a result, by the limit of digits.
func result(r *big.Rat) (api.Rat, api.Errno) {
	if !isShort(r) {
		return "", api.ErrLarge
	}
	return ofBig(r), api.OK
}

// whole returns an integer as a number.
func whole(n int) *big.Rat { return big.NewRat(int64(n), 1) }

// add, sub and mul compute with numbers of math/big.
func add(a, b *big.Rat) *big.Rat { return new(big.Rat).Add(a, b) }
func sub(a, b *big.Rat) *big.Rat { return new(big.Rat).Sub(a, b) }
func mul(a, b *big.Rat) *big.Rat { return new(big.Rat).Mul(a, b) }

// The definitions of the chapter, in its own words as far as possible.

// sumOf returns the sum of what a function makes of each source.
func sumOf(count int, f func(i int) *big.Rat) *big.Rat {
	sum := new(big.Rat)
	for i := range count {
		sum = add(sum, f(i))
	}
	return sum
}

// isBlend reports whether amounts are a blend.
func isBlend(sources []api.Source, order api.Order, amounts []*big.Rat) bool {
	for i, s := range sources {
		if amounts[i].Sign() < 0 || amounts[i].Cmp(whole(s.Stock)) > 0 {
			return false
		}
	}
	if sumOf(len(sources), func(i int) *big.Rat { return amounts[i] }).Cmp(whole(order.Mass)) != 0 {
		return false
	}
	for f := range order.Least {
		high := sumOf(len(sources), func(i int) *big.Rat { return mul(amounts[i], toBig(sources[i].Quality[f].High)) })
		if order.Most[f] != "" && high.Cmp(mul(toBig(order.Most[f]), whole(order.Mass))) > 0 {
			return false
		}
		low := sumOf(len(sources), func(i int) *big.Rat { return mul(amounts[i], toBig(sources[i].Quality[f].Low)) })
		if order.Least[f] != "" && low.Cmp(mul(toBig(order.Least[f]), whole(order.Mass))) < 0 {
			return false
		}
	}
	return true
}

// costOf returns the cost of amounts.
func costOf(sources []api.Source, amounts []*big.Rat) *big.Rat {
	return sumOf(len(sources), func(i int) *big.Rat { return mul(amounts[i], toBig(sources[i].Cost)) })
}

// reduced returns the reduced cost of a source.
func reduced(s api.Source, order api.Order, prices api.Prices) *big.Rat {
	cost := sub(toBig(s.Cost), toBig(prices.Base))
	for f, q := range s.Quality {
		if order.Most[f] != "" {
			cost = add(cost, mul(toBig(prices.Most[f]), sub(toBig(q.High), toBig(order.Most[f]))))
		}
		if order.Least[f] != "" {
			cost = add(cost, mul(toBig(prices.Least[f]), sub(toBig(order.Least[f]), toBig(q.Low))))
		}
	}
	return cost
}

// boundOf returns the bound of prices.
func boundOf(sources []api.Source, order api.Order, prices api.Prices) *big.Rat {
	return add(mul(toBig(prices.Base), whole(order.Mass)), sumOf(len(sources), func(i int) *big.Rat {
		cost := reduced(sources[i], order, prices)
		if cost.Sign() >= 0 {
			return new(big.Rat)
		}
		return mul(cost, whole(sources[i].Stock))
	}))
}

// boxBoundOf returns the bound of a box.
func boxBoundOf(sources []api.Source, order api.Order, gates api.Gates, box api.Box) *big.Rat {
	return add(mul(toBig(box.Prices.Base), whole(order.Mass)), sumOf(len(sources), func(i int) *big.Rat {
		cost, multiple := reduced(sources[i], order, box.Prices), box.Low[i]
		if cost.Sign() < 0 {
			multiple = box.High[i]
		}
		return mul(cost, mul(whole(gates.Step), whole(multiple)))
	}))
}

// isPrices reports whether prices have the form of prices.
func isPrices(order api.Order, prices api.Prices) bool {
	if len(prices.Most) != len(order.Most) || len(prices.Least) != len(order.Least) || !isShort(toBig(prices.Base)) {
		return false
	}
	return !slices.ContainsFunc(slices.Concat(prices.Most, prices.Least), func(a api.Rat) bool {
		return toBig(a).Sign() < 0 || !isShort(toBig(a)) || ofBig(toBig(a)) != a
	})
}

// free returns sources whose costs are 0.
func free(sources []api.Source) []api.Source {
	l := slices.Clone(sources)
	for i := range l {
		l[i].Cost = "0"
	}
	return l
}

// greatest returns the greatest multiple of each source.
func greatest(sources []api.Source, gates api.Gates) []int {
	var l []int
	for _, s := range sources {
		l = append(l, s.Stock/gates.Step)
	}
	return l
}

// size returns the number of settings from low to high.
func size(low, high []int) *big.Rat {
	n := whole(1)
	for i := range low {
		n = mul(n, whole(high[i]-low[i]+1))
	}
	return n
}

// allSettings returns all settings in ascending order.
func allSettings(sources []api.Source, gates api.Gates) [][]int {
	l := [][]int{nil}
	for _, most := range greatest(sources, gates) {
		var longer [][]int
		for _, setting := range l {
			for multiple := range most + 1 {
				longer = append(longer, append(slices.Clone(setting), multiple))
			}
		}
		l = longer
	}
	return l
}

// amountsOf returns the amounts of a setting.
func amountsOf(gates api.Gates, setting []int) []*big.Rat {
	var l []*big.Rat
	for _, multiple := range setting {
		l = append(l, mul(whole(multiple), whole(gates.Step)))
	}
	return l
}

// isWhole reports whether a setting is a whole blend.
func isWhole(sources []api.Source, order api.Order, gates api.Gates, setting []int) bool {
	used := 0
	for _, multiple := range setting {
		if multiple != 0 {
			used++
		}
	}
	return used <= gates.Most && isBlend(sources, order, amountsOf(gates, setting))
}

// isCrowded reports whether a box is crowded.
func isCrowded(gates api.Gates, box api.Box) bool {
	above := 0
	for _, multiple := range box.Low {
		if multiple > 0 {
			above++
		}
	}
	return above > gates.Most
}

// areComplete reports whether boxes are complete.
func areComplete(sources []api.Source, gates api.Gates, boxes []api.Box) bool {
	sum := new(big.Rat)
	for i, b := range boxes {
		for _, other := range boxes[:i] {
			isApart := false
			for k := range b.Low {
				isApart = isApart || b.High[k] < other.Low[k] || other.High[k] < b.Low[k]
			}
			if !isApart {
				return false
			}
		}
		sum = add(sum, size(b.Low, b.High))
	}
	return sum.Cmp(size(make([]int, len(sources)), greatest(sources, gates))) == 0
}

// randomRat returns a number from low to high with a denominator of at most so much.
func randomRat(r *rand.Rand, low, high, bottom int) *big.Rat {
	n := 1 + r.Intn(bottom)
	return big.NewRat(int64(low*n+r.Intn((high-low)*n+1)), int64(n))
}

// sizes say how large random problems are.
type sizes struct {
	sources, factors, stock, bottom int
}

// randomProblem returns sources and an order; about half of them have a blend.
func randomProblem(r *rand.Rand, z sizes) ([]api.Source, api.Order) {
	factors := r.Intn(z.factors + 1)
	var sources []api.Source
	stocks := 0
	for range 1 + r.Intn(z.sources) {
		s := api.Source{Stock: r.Intn(z.stock + 1), Cost: ofBig(randomRat(r, -2, 9, z.bottom))}
		for range factors {
			low := randomRat(r, 10, 16, z.bottom)
			s.Quality = append(s.Quality, span(ofBig(low), ofBig(add(low, randomRat(r, 0, 1, z.bottom)))))
		}
		stocks += s.Stock
		sources = append(sources, s)
	}
	order := api.Order{Mass: 1 + r.Intn(stocks+2)}
	for range factors {
		least, most := api.Rat(""), api.Rat("")
		if r.Intn(3) > 0 {
			most = ofBig(randomRat(r, 12, 17, z.bottom))
		}
		if r.Intn(3) > 0 {
			least = ofBig(randomRat(r, 9, 14, z.bottom))
		}
		order.Least, order.Most = append(order.Least, least), append(order.Most, most)
	}
	return sources, order
}

// checkSolved checks that amounts are a blend of the least cost, and that prices prove it, by their definitions.
func checkSolved(t *testing.T, what string, sources []api.Source, order api.Order, amounts []api.Rat, prices api.Prices) {
	t.Helper()
	expect(t, what+": the number of amounts", len(amounts), len(sources))
	expect(t, what+": the amounts are a blend", isBlend(sources, order, toBigs(amounts)), true)
	expect(t, what+": the amounts are short", slices.ContainsFunc(toBigs(amounts), func(n *big.Rat) bool { return !isShort(n) }), false)
	expect(t, what+": the prices are prices", isPrices(order, prices), true)
	expect(t, what+": the bound", ofBig(boundOf(sources, order, prices)), ofBig(costOf(sources, toBigs(amounts))))
	expect(t, what+": CheckSolved", blend.CheckSolved(sources, order, amounts, prices), api.OK)
}

// checkRefuted checks that prices prove that there is no blend, by their definition.
func checkRefuted(t *testing.T, what string, sources []api.Source, order api.Order, prices api.Prices) {
	t.Helper()
	expect(t, what+": the prices are prices", isPrices(order, prices), true)
	expect(t, what+": the bound is above 0", boundOf(free(sources), order, prices).Sign() > 0, true)
	expect(t, what+": CheckRefuted", blend.CheckRefuted(sources, order, prices), api.OK)
}

// checkBoxes checks that boxes are complete, and that the bounds of those that are not crowded are enough.
func checkBoxes(t *testing.T, what string, sources []api.Source, order api.Order, gates api.Gates, boxes []api.Box, isEnough func(bound *big.Rat) bool) {
	t.Helper()
	expect(t, what+": the number of boxes", len(boxes) <= api.MaxLeaves, true)
	expect(t, what+": the boxes are complete", areComplete(sources, gates, boxes), true)
	for _, b := range boxes {
		expect(t, what+": the prices are prices", isPrices(order, b.Prices), true)
		expect(t, what+": the bound is enough", isCrowded(gates, b) || isEnough(boxBoundOf(sources, order, gates, b)), true)
	}
}
