package blend_test

import (
	"fmt"
	"math/big"
	"math/rand"
	"slices"
	"testing"

	"bushel/api"
	"bushel/blend"
)

// P7.1 and P7.2: sources and orders, blends, and bounds.

func TestCheck(t *testing.T) {
	factors := slices.Repeat([]api.Rat{"0", "1"}, api.MaxFactors)
	limits := slices.Repeat([]api.Rat{""}, api.MaxFactors)
	for what, row := range map[string]struct {
		sources []api.Source
		order   api.Order
	}{
		"the example":             {example(), exampleOrder()},
		"no factors":              {[]api.Source{source(0, "0")}, api.Order{Mass: 1}},
		"nil and empty":           {[]api.Source{source(0, "0")}, api.Order{Mass: 1, Least: []api.Rat{}}},
		"the most sources":        {slices.Repeat([]api.Source{source(api.MaxMass, "-"+nines(600))}, api.MaxSources), api.Order{Mass: api.MaxMass}},
		"the most factors":        {[]api.Source{source(1, "1/3", factors...)}, api.Order{Mass: 1, Least: limits, Most: limits}},
		"limits that exclude all": {example(), api.Order{Mass: 1, Least: []api.Rat{"5"}, Most: []api.Rat{"-5"}}},
		"long limits":             {example(), api.Order{Mass: 1, Least: []api.Rat{"-" + nines(600)}, Most: []api.Rat{"1/" + nines(600)}}},
	} {
		expect(t, what, blend.Check(row.sources, row.order), api.OK)
	}
}

func TestErrorsOfProblems(t *testing.T) {
	for _, name := range ofOrders() {
		expectErrors(t, name, problemFaults()...)
		expectNumberErrors(t, false, func(a *args) *api.Rat { return &a.sources[0].Cost }, name)
		expectNumberErrors(t, false, func(a *args) *api.Rat { return &a.sources[1].Quality[0].Low }, name)
		expectNumberErrors(t, false, func(a *args) *api.Rat { return &a.sources[0].Quality[0].High }, name)
		expectNumberErrors(t, true, func(a *args) *api.Rat { return &a.order.Least[0] }, name)
		expectNumberErrors(t, true, func(a *args) *api.Rat { return &a.order.Most[0] }, name)
	}
}

// TestFirstErrorsOfProblems checks that an error of a problem comes before those of all other arguments, and that the texts of limits are searched from the first one on.
func TestFirstErrorsOfProblems(t *testing.T) {
	for _, name := range ofOrders() {
		a := goodArgs(name)
		a.sources[1].Quality[0] = span("2", "1")
		a.amounts, a.prices, a.s, a.gates, a.setting = nil, api.Prices{}, -1, api.Gates{}, nil
		a.box, a.boxes, a.settings = api.Box{}, make([]api.Box, api.MaxLeaves+1), make([][]int, api.MaxList+1)
		expectError(t, name+" of bad arguments", name, a, api.ErrOrder)
		a = goodArgs(name)
		a.sources = []api.Source{source(1, "1", "0", "0", "0", "0", "0", "0")}
		a.order.Least, a.order.Most = []api.Rat{"", nines(601), "x"}, []api.Rat{"x", "x", "x"}
		expectError(t, name+" of bad limits", name, a, api.ErrLarge)
		a.order.Least, a.order.Most = []api.Rat{"", "1", ""}, []api.Rat{"", "", "1/1"}
		expectError(t, name+" of a bad limit", name, a, api.ErrForm)
	}
}

func TestHolds(t *testing.T) {
	both := api.Order{Mass: 100, Least: []api.Rat{"13"}, Most: []api.Rat{"14"}}
	for _, row := range []struct {
		order   api.Order
		amounts []api.Rat
		want    bool
	}{
		{exampleOrder(), []api.Rat{"50", "50"}, true}, {exampleOrder(), []api.Rat{"40", "60"}, false}, {exampleOrder(), []api.Rat{"100", "0"}, true},
		{exampleOrder(), []api.Rat{"0", "100"}, false}, {exampleOrder(), []api.Rat{"50", "49"}, false}, {exampleOrder(), []api.Rat{"51", "50"}, false},
		{exampleOrder(), []api.Rat{"151/3", "149/3"}, true}, {exampleOrder(), []api.Rat{"149/3", "151/3"}, false},
		{exampleOrder(), []api.Rat{"101", "-1"}, false}, {exampleOrder(), []api.Rat{"-1", "101"}, false}, {exampleOrder(), []api.Rat{"0", "0"}, false},
		// Without limits only the stocks and the mass count.
		{atMost(100, ""), []api.Rat{"0", "100"}, true}, {atMost(101, ""), []api.Rat{"0", "101"}, false}, {atMost(200, ""), []api.Rat{"100", "100"}, true},
		{atMost(201, ""), []api.Rat{"201/2", "201/2"}, false}, {atMost(101, ""), []api.Rat{"1", "-" + nines(600)}, false},
		// The least value counts with the Lows, the greatest one with the Highs.
		{both, []api.Rat{"60", "40"}, true}, {both, []api.Rat{"200/3", "100/3"}, true}, {both, []api.Rat{"67", "33"}, false}, {both, []api.Rat{"50", "50"}, true},
		{both, []api.Rat{"199/4", "201/4"}, false},
	} {
		what := fmt.Sprint("Holds ", row)
		expect(t, what, ok[bool](t, what)(blend.Holds(example(), row.order, row.amounts)), row.want)
	}
	expectErrors(t, "Holds", amountsFaults()...)
	expectNumberErrors(t, false, func(a *args) *api.Rat { return &a.amounts[1] }, "Holds")
}

func TestHoldsAgainstDefinition(t *testing.T) {
	r := rand.New(rand.NewSource(11))
	held := map[bool]int{}
	for i := range 3000 {
		sources, order := randomProblem(r, []sizes{{3, 2, 9, 1}, {5, 3, 40, 3}}[i%2])
		left := whole(order.Mass)
		var amounts []*big.Rat
		for k, s := range sources {
			amount := randomRat(r, 0, s.Stock, 3)
			if k == len(sources)-1 || r.Intn(9) == 0 {
				amount = left
			}
			left = sub(left, amount)
			amounts = append(amounts, amount)
		}
		var texts []api.Rat
		for _, n := range amounts {
			texts = append(texts, ofBig(n))
		}
		want := isBlend(sources, order, amounts)
		what := fmt.Sprint("Holds ", sources, order, texts)
		expect(t, what, ok[bool](t, what)(blend.Holds(sources, order, texts)), want)
		held[want]++
	}
	if held[true] < 200 || held[false] < 200 {
		t.Errorf("blends and others: %v", held)
	}
}

func TestQualityAndCost(t *testing.T) {
	three := []api.Source{source(0, "1/3", "12", "12", "-1", "2"), source(5, "-2", "15", "16", "1/2", "1/2"), source(9, "0", "0", "1", "7", "8")}
	for _, row := range []struct {
		sources []api.Source
		amounts []api.Rat
		quality []api.Span
		cost    api.Rat
	}{
		{example(), []api.Rat{"50", "50"}, []api.Span{span("27/2", "14")}, "150"},
		{example(), []api.Rat{"0", "1/7"}, []api.Span{span("15", "16")}, "1/7"},
		// Stocks do not matter.
		{three, []api.Rat{"3", "6", "0"}, []api.Span{span("14", "44/3"), span("0", "1")}, "-11"},
		{three, []api.Rat{"1/2", "1/3", "1/6"}, []api.Span{span("11", "23/2"), span("5/6", "5/2")}, "-1/2"},
		{[]api.Source{source(1, "3"), source(1, "-1")}, []api.Rat{"2", "2"}, nil, "4"},
	} {
		what := fmt.Sprint(row.sources, row.amounts)
		expectList(t, "Quality "+what, ok[[]api.Span](t, what)(blend.Quality(row.sources, row.amounts)), row.quality)
		expect(t, "Cost "+what, ok[api.Rat](t, what)(blend.Cost(row.sources, row.amounts)), row.cost)
	}
	expect(t, "the cost of nothing", ok[api.Rat](t, "Cost")(blend.Cost(example(), []api.Rat{"0", "0"})), api.Rat("0"))
}

func TestErrorsOfQualityAndCost(t *testing.T) {
	many := api.Source{Stock: -1, Cost: "x", Quality: make([]api.Span, api.MaxFactors+1)}
	for _, name := range []string{"Quality", "Cost"} {
		faults := []fault{
			{"no sources", api.ErrShape, func(a *args) { a.sources = nil }},
			{"too many sources", api.ErrMany, func(a *args) { a.sources = slices.Repeat([]api.Source{worst()}, api.MaxSources+1) }},
			{"too many factors", api.ErrMany, func(a *args) { a.sources = []api.Source{many, worst()} }},
			{"a first source with an error", api.ErrRange, func(a *args) { a.sources = []api.Source{worst(), many} }},
			{"too many factors of the second source", api.ErrShape, func(a *args) {
				a.sources = []api.Source{source(1, "1", "1", "1"), {Cost: "1", Quality: make([]api.Span, api.MaxFactors+1)}, worst()}
			}},
		}
		faults = append(append(faults, sourceFaults()...), amountsFaults()...)
		faults = append(faults, fault{"a negative amount", api.ErrRange, func(a *args) { a.amounts = []api.Rat{"0", "-1/3"} }})
		if name == "Quality" {
			faults = append(faults, fault{"amounts of 0", api.ErrZero, func(a *args) { a.amounts = []api.Rat{"0", "0"} }})
		}
		expectErrors(t, name, faults...)
		expectNumberErrors(t, false, func(a *args) *api.Rat { return &a.amounts[0] }, name)
	}
}

func TestLongQualityAndCost(t *testing.T) {
	long := []api.Source{source(1, nines(600), nines(600), nines(600)), source(1, "1/"+nines(600), "0", "1/"+nines(600))}
	for _, row := range []struct {
		amounts       []api.Rat
		quality, cost api.Errno
	}{
		{[]api.Rat{"1", "0"}, api.OK, api.OK}, {[]api.Rat{"0", "1"}, api.OK, api.OK}, {[]api.Rat{"1", "1"}, api.ErrLarge, api.ErrLarge},
		{[]api.Rat{"2", "0"}, api.OK, api.ErrLarge}, {[]api.Rat{"0", "1/2"}, api.OK, api.ErrLarge}, {[]api.Rat{"0", nines(600)}, api.OK, api.OK},
		{[]api.Rat{nines(600), nines(600)}, api.ErrLarge, api.ErrLarge},
	} {
		_, e := blend.Quality(long, row.amounts)
		expect(t, fmt.Sprint("Quality ", row), e, row.quality)
		_, e = blend.Cost(long, row.amounts)
		expect(t, fmt.Sprint("Cost ", row), e, row.cost)
	}
}

func TestQualityAndCostAgainstDefinition(t *testing.T) {
	r := rand.New(rand.NewSource(12))
	for i := range 1000 {
		sources, _ := randomProblem(r, []sizes{{3, 2, 9, 1}, {16, 8, 1000, 30}}[i%2])
		var amounts []*big.Rat
		var texts []api.Rat
		for range sources {
			amounts = append(amounts, randomRat(r, 0, 20, 9))
			texts = append(texts, ofBig(amounts[len(amounts)-1]))
		}
		what := fmt.Sprint(sources, texts)
		expect(t, "Cost "+what, ok[api.Rat](t, what)(blend.Cost(sources, texts)), ofBig(costOf(sources, amounts)))
		mass := sumOf(len(sources), func(i int) *big.Rat { return amounts[i] })
		if mass.Sign() == 0 {
			continue
		}
		var want []api.Span
		for f := range sources[0].Quality {
			mean := func(end func(s api.Span) api.Rat) api.Rat {
				sum := sumOf(len(sources), func(i int) *big.Rat { return mul(amounts[i], toBig(end(sources[i].Quality[f]))) })
				return ofBig(new(big.Rat).Quo(sum, mass))
			}
			want = append(want, span(mean(func(s api.Span) api.Rat { return s.Low }), mean(func(s api.Span) api.Rat { return s.High })))
		}
		expectList(t, "Quality "+what, ok[[]api.Span](t, what)(blend.Quality(sources, texts)), want)
	}
}

func TestBound(t *testing.T) {
	both := api.Order{Mass: 100, Least: []api.Rat{"13"}, Most: []api.Rat{"14"}}
	for _, row := range []struct {
		order  api.Order
		prices api.Prices
		want   api.Rat
	}{
		{exampleOrder(), prices("3/2", "1/4", "0"), "150"}, {exampleOrder(), prices("0", "0", "0"), "0"}, {exampleOrder(), prices("2", "0", "0"), "100"},
		{exampleOrder(), prices("-5", "0", "0"), "-500"},
		// The price of a limit that is empty does not matter.
		{exampleOrder(), prices("3/2", "1/4", "77"), "150"}, {atMost(100, ""), prices("2", "9", "9"), "100"},
		{both, prices("2", "1/4", "1/3"), "200/3"},
	} {
		what := fmt.Sprint("Bound ", row.order, row.prices)
		expect(t, what, ok[api.Rat](t, what)(blend.Bound(example(), row.order, row.prices)), row.want)
	}
	expectErrors(t, "Bound", pricesFaults(func(a *args) *api.Prices { return &a.prices })...)
	expectNumberErrors(t, false, func(a *args) *api.Rat { return &a.prices.Base }, "Bound")
	expectNumberErrors(t, false, func(a *args) *api.Rat { return &a.prices.Most[0] }, "Bound")
	expectNumberErrors(t, false, func(a *args) *api.Rat { return &a.prices.Least[0] }, "Bound")
	for _, row := range []struct {
		base api.Rat
		want api.Errno
	}{{"-" + nines(598), api.OK}, {"-" + nines(599), api.ErrLarge}, {"-" + nines(600), api.ErrLarge}, {"-1/" + nines(600), api.OK}} {
		_, e := blend.Bound(example(), exampleOrder(), prices(row.base, "0", "0"))
		expect(t, fmt.Sprint("Bound of a long number ", row), e, row.want)
	}
}

// randomPrices returns prices, those of limits that are empty among them.
func randomPrices(r *rand.Rand, order api.Order) api.Prices {
	x := api.Prices{Base: ofBig(randomRat(r, -5, 9, 4))}
	for range order.Least {
		most, least := randomRat(r, 0, 3, 4), randomRat(r, 0, 3, 4)
		x.Most, x.Least = append(x.Most, ofBig(most)), append(x.Least, ofBig(least))
	}
	return x
}

func TestBoundAgainstDefinition(t *testing.T) {
	r := rand.New(rand.NewSource(13))
	for i := range 2000 {
		sources, order := randomProblem(r, []sizes{{3, 2, 9, 1}, {16, 8, 1000, 30}}[i%2])
		x := randomPrices(r, order)
		what := fmt.Sprint("Bound ", sources, order, x)
		expect(t, what, ok[api.Rat](t, what)(blend.Bound(sources, order, x)), ofBig(boundOf(sources, order, x)))
	}
}
