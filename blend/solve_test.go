package blend_test

import (
	"fmt"
	"math"
	"math/big"
	"math/rand"
	"slices"
	"testing"

	"bushel/api"
	"bushel/blend"
)

// P7.3, P7.4 and P7.5: best blends, refusals, and ranges of amounts.

// solve returns the least cost of a blend, whose amounts and prices are checked.
func solve(t *testing.T, sources []api.Source, order api.Order) api.Rat {
	t.Helper()
	what := fmt.Sprint("Solve ", sources, order)
	amounts, x, e := blend.Solve(sources, order)
	if e != api.OK {
		t.Fatalf("%.600s: error %d", what, e)
	}
	checkSolved(t, what, sources, order, amounts, x)
	return ofBig(costOf(sources, toBigs(amounts)))
}

// refute checks that there is no blend.
func refute(t *testing.T, sources []api.Source, order api.Order) {
	t.Helper()
	what := fmt.Sprint("Refute ", sources, order)
	checkRefuted(t, what, sources, order, ok[api.Prices](t, what)(blend.Refute(sources, order)))
	for _, name := range []string{"Solve", "Value", "Amounts"} {
		expectError(t, name+" of "+what, name, args{sources: sources, order: order}, api.ErrInfeasible)
	}
}

func TestSolve(t *testing.T) {
	sources := append(example(), source(30, "-1", "18", "20"))
	both := api.Order{Mass: 100, Least: []api.Rat{"13"}, Most: []api.Rat{"14"}}
	for _, row := range []struct {
		sources []api.Source
		order   api.Order
		want    api.Rat
	}{
		{example(), exampleOrder(), "150"}, {example(), atMost(100, ""), "100"}, {example(), atMost(200, "14"), "300"}, {example(), atMost(150, ""), "200"},
		{example(), atMost(100, "12"), "200"}, {example(), atMost(1, "17"), "1"}, {example(), atMost(100, "27/2"), "325/2"}, {example(), both, "150"},
		// A source that is paid for is taken as far as the limit permits: 80, 0 and 20 cost 140, and 75, 0 and 25 would be too moist.
		{sources, exampleOrder(), "125"}, {sources, both, "125"}, {sources, atMost(100, "12"), "200"}, {sources, atMost(230, ""), "270"},
		{[]api.Source{source(5, "1/3"), source(5, "1/2"), source(0, "-9")}, api.Order{Mass: 7}, "8/3"},
	} {
		expect(t, fmt.Sprint("Solve ", row.sources, row.order), solve(t, row.sources, row.order), row.want)
		expect(t, fmt.Sprint("Value ", row.sources, row.order), ok[api.Rat](t, "Value")(blend.Value(row.sources, row.order)), row.want)
		expectError(t, fmt.Sprint("Refute ", row.order), "Refute", args{sources: row.sources, order: row.order}, api.ErrNone)
	}
	amounts, _, _ := blend.Solve(example(), exampleOrder())
	expect(t, "the only best blend", amounts, []api.Rat{"50", "50"})
}

func TestRefute(t *testing.T) {
	both := func(least, most api.Rat) api.Order {
		return api.Order{Mass: 100, Least: []api.Rat{least}, Most: []api.Rat{most}}
	}
	for _, row := range []struct {
		sources []api.Source
		order   api.Order
	}{
		{example(), atMost(100, "11")}, {example(), atMost(100, "11999/1000")}, {example(), atMost(200, "1399/100")}, {example(), atMost(201, "")}, {example(), atMost(201, "20")},
		{example(), both("16", "")}, {example(), both("15001/1000", "")}, {example(), both("14", "13")}, {example(), both("14", "14")}, {example(), both("20", "-20")},
		{[]api.Source{source(0, "1")}, api.Order{Mass: 1}}, {[]api.Source{source(5, "1"), source(6, "-1")}, api.Order{Mass: 12}},
		// Each factor alone can be met, but not both.
		{[]api.Source{source(9, "1", "10", "10", "20", "20"), source(9, "1", "20", "20", "10", "10")}, atMost(9, "14", "14")},
	} {
		refute(t, row.sources, row.order)
	}
}

func TestErrorsOfProofs(t *testing.T) {
	faults := append(amountsFaults(), pricesFaults(func(a *args) *api.Prices { return &a.prices })...)
	expectErrors(t, "CheckSolved", append(faults,
		fault{"amounts that are no blend", api.ErrProof, func(a *args) { a.amounts = []api.Rat{"40", "60"} }},
		fault{"amounts of another mass", api.ErrProof, func(a *args) { a.amounts = []api.Rat{"50", "49"} }},
		fault{"a negative amount", api.ErrProof, func(a *args) { a.amounts = []api.Rat{"101", "-1"} }},
		fault{"a dearer blend", api.ErrProof, func(a *args) { a.amounts = []api.Rat{"51", "49"} }},
		fault{"prices that prove less", api.ErrProof, func(a *args) { a.prices = prices("3/2", "249/1000", "0") }},
		fault{"no prices", api.ErrProof, func(a *args) { a.prices = prices("0", "0", "0") }},
	)...)
	expectErrors(t, "CheckRefuted", append(pricesFaults(func(a *args) *api.Prices { return &a.prices }),
		fault{"prices that prove nothing", api.ErrProof, func(a *args) { a.prices = prices("0", "0", "0") }},
		fault{"prices with a bound of 0", api.ErrProof, func(a *args) { a.prices = prices("0", "1", "0") }},
		fault{"prices with a bound below 0", api.ErrProof, func(a *args) { a.prices = prices("-1", "1", "0") }},
		fault{"an order that has a blend", api.ErrProof, func(a *args) { a.order.Most = []api.Rat{"12"} }},
	)...)
	for _, name := range []string{"CheckSolved", "CheckRefuted"} {
		expectNumberErrors(t, false, func(a *args) *api.Rat { return &a.prices.Base }, name)
		expectNumberErrors(t, false, func(a *args) *api.Rat { return &a.prices.Most[0] }, name)
		expectNumberErrors(t, false, func(a *args) *api.Rat { return &a.prices.Least[0] }, name)
	}
	expectNumberErrors(t, false, func(a *args) *api.Rat { return &a.amounts[1] }, "CheckSolved")
	// The costs do not matter for a refusal, and the prices of empty limits never do.
	a := goodArgs("CheckRefuted")
	a.sources[0].Cost, a.sources[1].Cost, a.prices.Least[0] = "-1000", "-1000", "99"
	expect(t, "a refusal with other costs", blend.CheckRefuted(a.sources, a.order, a.prices), api.OK)
	a = goodArgs("CheckSolved")
	a.prices.Least[0] = "99"
	expect(t, "a proof with another price", blend.CheckSolved(a.sources, a.order, a.amounts, a.prices), api.OK)
}

// TestProblemsAreSolvedOrRefuted checks that each problem has a blend with prices that prove it, or prices that refute it, and the ranges of amounts.
func TestProblemsAreSolvedOrRefuted(t *testing.T) {
	r := rand.New(rand.NewSource(21))
	solved := map[bool]int{}
	for i := range 3000 {
		sources, order := randomProblem(r, []sizes{{3, 2, 9, 1}, {4, 2, 9, 2}, {6, 3, 50, 4}, {16, 8, 1000, 20}, {16, 8, 3, 1}}[i%5])
		what := fmt.Sprint(sources, order)
		value, e := blend.Value(sources, order)
		solved[e == api.OK]++
		if e != api.OK {
			refute(t, sources, order)
			continue
		}
		expect(t, "Value "+what, solve(t, sources, order), value)
		expectError(t, "Refute "+what, "Refute", args{sources: sources, order: order}, api.ErrNone)
		if i%3 == 0 {
			checkAmounts(t, sources, order, r.Intn(len(sources)))
		}
	}
	if solved[true] < 500 || solved[false] < 500 {
		t.Errorf("problems with and without blends: %v", solved)
	}
}

// checkAmounts checks the range of the amounts of a source against the least costs where this source alone costs something.
func checkAmounts(t *testing.T, sources []api.Source, order api.Order, s int) {
	t.Helper()
	what := fmt.Sprint("Amounts ", sources, order, s)
	got := ok[api.Span](t, what)(blend.Amounts(sources, order, s))
	alone := free(sources)
	alone[s].Cost = "1"
	expect(t, what, got.Low, solve(t, alone, order))
	alone[s].Cost = "-1"
	expect(t, what, got.High, ofBig(new(big.Rat).Neg(toBig(solve(t, alone, order)))))
}

func TestAmounts(t *testing.T) {
	for _, row := range []struct {
		order api.Order
		s     int
		want  api.Span
	}{
		{exampleOrder(), 0, span("50", "100")}, {exampleOrder(), 1, span("0", "50")}, {atMost(100, ""), 0, span("0", "100")}, {atMost(150, ""), 1, span("50", "100")},
		{atMost(200, "14"), 0, span("100", "100")}, {atMost(100, "12"), 1, span("0", "0")}, {atMost(100, "40/3"), 0, span("200/3", "100")},
		{api.Order{Mass: 100, Least: []api.Rat{"13"}, Most: []api.Rat{"14"}}, 1, span("100/3", "50")},
	} {
		what := fmt.Sprint("Amounts ", row.order, row.s)
		expect(t, what, ok[api.Span](t, what)(blend.Amounts(example(), row.order, row.s)), row.want)
	}
	// A blend that is dear counts, too.
	dear := []api.Source{source(10, nines(600)), source(10, "-"+nines(600))}
	expect(t, "Amounts of dear sources", ok[api.Span](t, "Amounts")(blend.Amounts(dear, api.Order{Mass: 12}, 0)), span("2", "10"))
	for _, s := range []int{-1, 2, math.MinInt, math.MaxInt} {
		expectErrors(t, "Amounts",
			fault{fmt.Sprint("the source ", s), api.ErrUnknown, func(a *args) { a.s = s }},
			fault{"an order without a blend", api.ErrInfeasible, func(a *args) { a.order = atMost(100, "11") }},
		)
	}
}

// Long results.

// near returns an integer and the inverse of a number.
func near(n int, inverse api.Rat) api.Rat {
	return ofBig(add(whole(n), new(big.Rat).Inv(toBig(inverse))))
}

// longSources returns two sources like those of the example, but with qualities that are numbers of nearly 600 digits.
func longSources(stock int, costs ...api.Rat) []api.Source {
	low, high := near(12, nines(590)), near(16, power(590))
	return []api.Source{source(stock, costs[0], low, low), source(stock, costs[1], high, high)}
}

func TestLongValues(t *testing.T) {
	for _, row := range []struct {
		cost api.Rat
		want api.Errno
	}{{nines(598), api.OK}, {nines(599), api.ErrLarge}, {"-" + nines(600), api.ErrLarge}, {"1/" + nines(600), api.OK}, {"7/" + power(599), api.OK}} {
		// The amounts and the price are short in any case, only the cost of all is not.
		sources, order := []api.Source{source(100, row.cost)}, api.Order{Mass: 100}
		_, e := blend.Value(sources, order)
		expect(t, fmt.Sprint("Value ", row), e, row.want)
		solve(t, sources, order)
	}
}

// TestForcedLongResults checks that ErrLarge is returned where the only best blend, or its only prices, are too long.
func TestForcedLongResults(t *testing.T) {
	sources := longSources(100, "2", "1")
	expectError(t, "long amounts", "Solve", args{sources: sources, order: atMost(100, "14")}, api.ErrLarge)
	expectError(t, "long amounts", "Value", args{sources: sources, order: atMost(100, "14")}, api.ErrLarge)
	expectError(t, "long amounts", "Amounts", args{sources: sources, order: atMost(100, "14")}, api.ErrLarge)
	// Without a limit the same sources have short amounts and prices.
	expect(t, "the same sources without a limit", solve(t, sources, atMost(100, "")), api.Rat("100"))
	expect(t, "a short range", ok[api.Span](t, "Amounts")(blend.Amounts(sources, atMost(150, ""), 0)), span("50", "100"))
	// The amounts are 50 each, but both prices follow from the costs and the qualities.
	priced := []api.Source{source(100, "1/"+power(599), "12", "12"), source(100, "1/"+nines(600), "16", "16")}
	expectError(t, "long prices", "Solve", args{sources: priced, order: atMost(100, "14")}, api.ErrLarge)
	priced[1].Cost = "0"
	solve(t, priced, atMost(100, "14"))
	// Amounts with which the quality is exactly 14 are too long, whatever they cost.
	exact := api.Order{Mass: 100, Least: []api.Rat{"14"}, Most: []api.Rat{"14"}}
	expectError(t, "the only amounts", "Solve", args{sources: longSources(100, "0", "0"), order: exact}, api.ErrLarge)
	expect(t, "the cost of them", ok[api.Rat](t, "Value")(blend.Value(longSources(100, "0", "0"), exact)), api.Rat("0"))
	// The price by kilogram is 5/2 of the greatest number.
	steep := []api.Source{source(50, "0", "10", "10"), source(100, nines(600), "14", "14"), source(100, "-"+nines(600), "16", "16")}
	expectError(t, "prices above the greatest number", "Solve", args{sources: steep, order: atMost(100, "25/2")}, api.ErrLarge)
	expect(t, "a value of these", ok[api.Rat](t, "Value")(blend.Value(steep, atMost(100, "25/2"))), api.Rat("0"))
}

// TestFreeLongResults checks that short results are found where only some are too long.
func TestFreeLongResults(t *testing.T) {
	long := near(14, nines(589))
	window := api.Order{Mass: 100, Least: []api.Rat{near(13, power(589))}, Most: []api.Rat{long}}
	for _, costs := range [][]api.Rat{{"0", "0"}, {"1", "1"}, {nines(600), nines(600)}} {
		// All blends cost the same, and both ends of what the limits permit are too long.
		sources := longSources(100, costs...)
		expectError(t, "long ends", "Amounts", args{sources: sources, order: window}, api.ErrLarge)
		amounts, x, e := blend.Solve(sources, window)
		expect(t, "Solve between long ends", e, api.OK)
		checkSolved(t, "Solve between long ends", sources, window, amounts, x)
	}
	// The least price of the limit is too long, but not greater ones.
	moist := []api.Source{source(150, "-1", "12", "12"), source(100, near(-2, nines(590)), near(16, power(590)), near(16, power(590)))}
	expect(t, "a limit that only one source keeps", solve(t, moist, atMost(100, "12")), api.Rat("-100"))
	// Where the first source is not used, the amounts of the two others follow from long numbers.
	low, high := near(12, nines(590)), near(16, power(590))
	tip := []api.Source{source(30, "7", "0", "0", "28", "28", "0", "0"), source(90, "7", low, low, low, low, "1", near(1, nines(590))), source(90, "7", high, high, high, high, "0", "0")}
	order := api.Order{Mass: 100, Least: []api.Rat{"", "14", ""}, Most: []api.Rat{"14", "", ofBig(sub(toBig(near(1, power(590))), big.NewRat(2, 5)))}}
	expect(t, "a tip of long numbers", solve(t, tip, order), api.Rat("700"))
	// Where one of the others is used, the amounts of both follow from long numbers.
	level := append(longSources(99, "3", "3"), source(99, "3", "14", "14"), source(1, "3", "14", "14"))
	expect(t, "an end of long numbers", solve(t, level, api.Order{Mass: 100, Least: []api.Rat{"14"}, Most: []api.Rat{"14"}}), api.Rat("300"))
	three := append(longSources(70, "5", "5"), source(20, "5", "14", "29/2"))
	expect(t, "three sources between long ends", solve(t, three, window), api.Rat("500"))
	for _, order := range []api.Order{atMost(100, "11"), atMost(100, "12"), {Mass: 100, Least: []api.Rat{"16"}, Most: []api.Rat{long}}, {Mass: 199, Least: []api.Rat{"15"}, Most: []api.Rat{""}}} {
		refute(t, longSources(100, "2", "1"), order)
	}
	// Both prices are at the limit of digits: one is the greatest number, and the other nearly its inverse.
	least := "1/" + nines(599) + "8"
	refute(t, []api.Source{source(api.MaxMass, "1", least, least)}, atMost(1, "1/"+nines(600)))
}

// randomLong returns a number from low to below high with so many digits.
func randomLong(r *rand.Rand, low, high, digits int) api.Rat {
	bottom := new(big.Int).Rand(r, toBig(power(digits-3)).Num())
	bottom.Add(bottom, toBig(power(digits-3)).Num())
	top := new(big.Int).Rand(r, new(big.Int).Mul(bottom, big.NewInt(int64(high-low))))
	return ofBig(add(whole(low), new(big.Rat).SetFrac(top, bottom)))
}

// TestLongProblems checks problems in which nothing but the costs is short: all blends cost the same, so that there are always short results.
func TestLongProblems(t *testing.T) {
	r := rand.New(rand.NewSource(22))
	solved := map[bool]int{}
	for range 60 {
		var sources []api.Source
		factors := 1 + r.Intn(2)
		for range 1 + r.Intn(4) {
			s := api.Source{Stock: 50 + r.Intn(50), Cost: "1"}
			for range factors {
				q := randomLong(r, 10, 16, 600)
				s.Quality = append(s.Quality, span(q, q))
			}
			sources = append(sources, s)
		}
		order := api.Order{Mass: 20 + r.Intn(30)}
		for range factors {
			order.Least, order.Most = append(order.Least, randomLong(r, 11, 13, 600)), append(order.Most, randomLong(r, 13, 16, 600))
		}
		value, e := blend.Value(sources, order)
		solved[e == api.OK]++
		if e == api.OK {
			expect(t, "the cost of a long problem", solve(t, sources, order), value)
		} else {
			refute(t, sources, order)
		}
	}
	if solved[true] < 10 || solved[false] < 10 {
		t.Errorf("problems with and without blends: %v", solved)
	}
}

// TestTheMostSourcesAndFactors checks a problem of the greatest size.
func TestTheMostSourcesAndFactors(t *testing.T) {
	r := rand.New(rand.NewSource(23))
	for i := range 4 {
		var sources []api.Source
		for range api.MaxSources {
			s := api.Source{Stock: 500000000 + r.Intn(499999999), Cost: ofBig(randomRat(r, 1, 9, 9))}
			for range api.MaxFactors {
				q := randomRat(r, 10, 16, 9)
				s.Quality = append(s.Quality, span(ofBig(q), ofBig(add(q, big.NewRat(1, 7)))))
			}
			sources = append(sources, s)
		}
		limits := [2]api.Rat{"25/2", "27/2"}
		if i%2 == 1 {
			limits = [2]api.Rat{"149/10", "151/10"}
		}
		order := api.Order{Mass: api.MaxMass, Least: slices.Repeat([]api.Rat{limits[0]}, api.MaxFactors), Most: slices.Repeat([]api.Rat{limits[1]}, api.MaxFactors)}
		if i%2 == 1 {
			refute(t, sources, order)
		} else {
			solve(t, sources, order)
		}
	}
}
