package blend_test

import (
	"fmt"
	"math"
	"math/big"
	"math/rand"
	"slices"
	"testing"

	"bushel/api"
	"bushel/blend"
)

// P7.6, P7.7 and P7.8: whole settings, the best ones, and alternatives.

func TestIsWhole(t *testing.T) {
	gates := func(step, most int) api.Gates { return api.Gates{Step: step, Most: most} }
	for _, row := range []struct {
		gates   api.Gates
		setting []int
		want    bool
	}{
		{gates(20, 2), []int{3, 2}, true}, {gates(20, 2), []int{5, 0}, true}, {gates(20, 2), []int{2, 3}, false}, {gates(20, 2), []int{3, 3}, false}, {gates(20, 2), []int{0, 0}, false},
		{gates(20, 1), []int{5, 0}, true}, {gates(20, 1), []int{4, 1}, false}, {gates(20, 0), []int{5, 0}, false}, {gates(20, 16), []int{4, 1}, true},
		{gates(30, 2), []int{2, 1}, false}, {gates(100, 2), []int{1, 0}, true}, {gates(1, 2), []int{50, 50}, true}, {gates(1, 2), []int{49, 51}, false},
		// Multiples that cannot be made are no error.
		{gates(20, 2), []int{6, -1}, false}, {gates(20, 2), []int{-1, 6}, false}, {gates(20, 2), []int{math.MaxInt, math.MinInt}, false}, {gates(api.MaxMass, 2), []int{math.MinInt, 0}, false},
		{gates(20, 2), []int{3 + 1<<62, 2}, false}, {gates(20, 2), []int{0, math.MaxInt}, false}, {gates(api.MaxMass, 2), []int{0, 0}, false},
	} {
		what := fmt.Sprint("IsWhole ", row)
		expect(t, what, ok[bool](t, what)(blend.IsWhole(example(), exampleOrder(), row.gates, row.setting)), row.want)
	}
	short := []api.Source{source(59, "1"), source(100, "1")}
	expect(t, "more than a stock", ok[bool](t, "IsWhole")(blend.IsWhole(short, api.Order{Mass: 100}, gates(20, 2), []int{3, 2})), false)
	expect(t, "no more than it", ok[bool](t, "IsWhole")(blend.IsWhole(short, api.Order{Mass: 100}, gates(20, 2), []int{2, 3})), true)
}

// settingFaults are the errors of a setting.
func settingFaults() []fault {
	return []fault{
		{"no setting", api.ErrShape, func(a *args) { a.setting = nil }},
		{"too few multiples", api.ErrShape, func(a *args) { a.setting = []int{5} }},
		{"too many multiples", api.ErrShape, func(a *args) { a.setting = []int{3, 2, 0} }},
	}
}

func TestErrorsOfGates(t *testing.T) {
	box := func(a *args) *api.Box { return &a.box }
	expectErrors(t, "IsWhole", append(gatesFaults(), settingFaults()...)...)
	expectErrors(t, "BoxBound", append(gatesFaults(), boxFaults(box)...)...)
	expectErrors(t, "IsComplete", append(gatesFaults(), boxesFaults()...)...)
	for _, name := range []string{"Best", "RefuteWhole"} {
		expectErrors(t, name, gatesFaults()...)
	}
	expectNumberErrors(t, false, func(a *args) *api.Rat { return &a.box.Prices.Base }, "BoxBound")
	expectNumberErrors(t, false, func(a *args) *api.Rat { return &a.box.Prices.Most[0] }, "BoxBound")
	expectNumberErrors(t, false, func(a *args) *api.Rat { return &a.box.Prices.Least[0] }, "BoxBound")
	for _, name := range ofBoxes() {
		expectNumberErrors(t, false, func(a *args) *api.Rat { return &a.boxes[0].Prices.Base }, name)
	}
}

func TestErrorsOfBestProofs(t *testing.T) {
	small := func(a *args) []api.Box {
		l := slices.Clone(a.boxes)
		l[0].High = []int{2, 4}
		return l
	}
	proofs := []fault{
		{"no boxes", api.ErrProof, func(a *args) { a.boxes = nil }},
		{"boxes that leave settings out", api.ErrProof, func(a *args) { a.boxes = small(a) }},
		{"boxes that have settings in common", api.ErrProof, func(a *args) { a.boxes = append(a.boxes, a.boxes[0]) }},
		{"boxes that do both", api.ErrProof, func(a *args) {
			b := a.boxes[0]
			b.Low, b.High = []int{0, 0}, []int{2, 0}
			a.boxes = append(small(a), b)
		}},
	}
	faults := append(append(append(gatesFaults(), settingFaults()...), boxesFaults()...), proofs...)
	expectErrors(t, "CheckBest", append(faults,
		fault{"a setting that is no blend", api.ErrProof, func(a *args) { a.setting = []int{2, 3} }},
		fault{"a negative multiple", api.ErrProof, func(a *args) { a.setting = []int{6, -1} }},
		fault{"a setting with too many sources", api.ErrProof, func(a *args) { a.gates.Most = 1 }},
		fault{"a dearer setting", api.ErrProof, func(a *args) { a.setting = []int{4, 1} }},
		fault{"a bound that is too low", api.ErrProof, func(a *args) { a.boxes[1].Prices.Base = "999/1000" }},
	)...)
	expectErrors(t, "CheckRefutedWhole", append(append(gatesFaults(), boxesFaults()...),
		fault{"no boxes", api.ErrProof, func(a *args) { a.boxes = nil }},
		fault{"boxes that leave settings out", api.ErrProof, func(a *args) { a.boxes[0].High = []int{5, 4} }},
		fault{"boxes that have settings in common", api.ErrProof, func(a *args) { a.boxes = append(a.boxes, a.boxes[0]) }},
		fault{"a bound of 0", api.ErrProof, func(a *args) { a.boxes[0].Prices = prices("0", "0", "0") }},
		fault{"a bound below 0", api.ErrProof, func(a *args) { a.boxes[0].Prices = prices("-1", "1", "0") }},
	)...)
	// The costs do not matter for a refusal.
	a := goodArgs("CheckRefutedWhole")
	a.sources[0].Cost, a.sources[1].Cost = "-1000", "-1000"
	expect(t, "a refusal with other costs", blend.CheckRefutedWhole(a.sources, a.order, a.gates, a.boxes), api.OK)
	// A crowded box needs no prices, but one with as many sources as there may be does.
	crowded := []api.Box{
		{Low: []int{0, 0}, High: []int{0, 5}, Prices: prices("2", "1/2", "0")},
		{Low: []int{1, 0}, High: []int{5, 0}, Prices: prices("2", "0", "0")},
		{Low: []int{1, 1}, High: []int{5, 5}, Prices: prices("0", "0", "0")},
	}
	check := func(most int) api.Errno {
		return blend.CheckBest(example(), exampleOrder(), api.Gates{Step: 20, Most: most}, []int{5, 0}, crowded)
	}
	expect(t, "a crowded box", check(1), api.OK)
	expect(t, "a box that is not crowded", check(2), api.ErrProof)
}

func TestBoxBound(t *testing.T) {
	both := api.Order{Mass: 100, Least: []api.Rat{"13"}, Most: []api.Rat{"14"}}
	for _, row := range []struct {
		order api.Order
		box   api.Box
		want  api.Rat
	}{
		{exampleOrder(), proofOfBest()[0], "160"}, {exampleOrder(), proofOfBest()[1], "160"},
		{exampleOrder(), api.Box{Low: []int{1, 2}, High: []int{4, 3}, Prices: prices("3/2", "0", "9")}, "130"},
		{exampleOrder(), api.Box{Low: []int{3, 2}, High: []int{3, 2}, Prices: prices("0", "0", "0")}, "160"},
		{both, api.Box{Low: []int{1, 2}, High: []int{4, 3}, Prices: prices("2", "1/4", "1/3")}, "350/3"},
	} {
		what := fmt.Sprint("BoxBound ", row)
		got := ok[api.Rat](t, what)(blend.BoxBound(example(), row.order, api.Gates{Step: 20, Most: 2}, row.box))
		expect(t, what, got, ofBig(boxBoundOf(example(), row.order, api.Gates{Step: 20, Most: 2}, row.box)))
		expect(t, what, got, row.want)
	}
	a := goodArgs("BoxBound")
	a.box.Prices = prices("-"+nines(600), "0", "0")
	expectError(t, "a long bound", "BoxBound", a, api.ErrLarge)
	r := rand.New(rand.NewSource(31))
	for i := range 1000 {
		sources, order := randomProblem(r, []sizes{{3, 2, 9, 1}, {16, 8, 1000, 30}}[i%2])
		gates := api.Gates{Step: 1 + r.Intn(9), Most: r.Intn(17)}
		box := api.Box{Prices: randomPrices(r, order)}
		for _, most := range greatest(sources, gates) {
			low := r.Intn(most + 1)
			box.Low, box.High = append(box.Low, low), append(box.High, low+r.Intn(most-low+1))
		}
		what := fmt.Sprint("BoxBound ", sources, order, gates, box)
		expect(t, what, ok[api.Rat](t, what)(blend.BoxBound(sources, order, gates, box)), ofBig(boxBoundOf(sources, order, gates, box)))
	}
}

// randomBoxes returns boxes that are complete, or nearly so, without prices.
func randomBoxes(r *rand.Rand, most []int) []api.Box {
	l := []api.Box{{Low: make([]int, len(most)), High: most}}
	for range r.Intn(8) {
		k, i := r.Intn(len(l)), r.Intn(len(most))
		b := l[k]
		if b.Low[i] == b.High[i] {
			continue
		}
		at := b.Low[i] + r.Intn(b.High[i]-b.Low[i])
		lower, upper := slices.Clone(b.High), slices.Clone(b.Low)
		lower[i], upper[i] = at, at+1
		l[k] = api.Box{Low: b.Low, High: lower}
		l = append(l, api.Box{Low: upper, High: b.High})
	}
	r.Shuffle(len(l), func(i, k int) { l[i], l[k] = l[k], l[i] })
	if r.Intn(2) == 0 {
		k, i := r.Intn(len(l)), r.Intn(len(most))
		low, high := slices.Clone(l[k].Low), slices.Clone(l[k].High)
		low[i] = min(low[i]+r.Intn(2), high[i])
		high[i] = max(high[i]-r.Intn(2), low[i])
		l[k] = api.Box{Low: low, High: high}
		l = append(l, l[r.Intn(len(l))])[:len(l)+r.Intn(2)]
	}
	return l
}

func TestIsComplete(t *testing.T) {
	r := rand.New(rand.NewSource(32))
	counts := map[bool]int{}
	for range 3000 {
		var sources []api.Source
		for range 1 + r.Intn(4) {
			sources = append(sources, source(r.Intn(9), "1"))
		}
		gates := api.Gates{Step: 1 + r.Intn(3), Most: r.Intn(3)}
		boxes := randomBoxes(r, greatest(sources, gates))
		for i := range boxes {
			boxes[i].Prices.Base = "0"
		}
		want := areComplete(sources, gates, boxes)
		counts[want]++
		what := fmt.Sprint("IsComplete ", sources, gates, boxes)
		expect(t, what, ok[bool](t, what)(blend.IsComplete(sources, api.Order{Mass: 1}, gates, boxes)), want)
	}
	if counts[true] < 500 || counts[false] < 500 {
		t.Errorf("boxes that are complete, and that are not: %v", counts)
	}
	// The numbers of settings are far greater than machine integers.
	wide := slices.Repeat([]api.Source{source(api.MaxMass, "0")}, api.MaxSources)
	low, high := make([]int, api.MaxSources), slices.Repeat([]int{api.MaxMass}, api.MaxSources)
	gates := api.Gates{Step: 1, Most: 1}
	all := api.Box{Low: low, High: high, Prices: api.Prices{Base: "0"}}
	expect(t, "one box of all", ok[bool](t, "IsComplete")(blend.IsComplete(wide, api.Order{Mass: 1}, gates, []api.Box{all})), true)
	all.High = slices.Clone(high)
	all.High[5]--
	expect(t, "nearly all", ok[bool](t, "IsComplete")(blend.IsComplete(wide, api.Order{Mass: 1}, gates, []api.Box{all})), false)
	// As many boxes as there may be.
	row := []api.Source{source(api.MaxLeaves-1, "0")}
	var boxes []api.Box
	for multiple := range api.MaxLeaves {
		boxes = append(boxes, api.Box{Low: []int{multiple}, High: []int{multiple}, Prices: api.Prices{Base: "0"}})
	}
	expect(t, "the most boxes", ok[bool](t, "IsComplete")(blend.IsComplete(row, api.Order{Mass: 1}, gates, boxes)), true)
	expect(t, "one twice", ok[bool](t, "IsComplete")(blend.IsComplete(row, api.Order{Mass: 1}, gates, append(boxes[1:], boxes[1]))), false)
}

// best returns the cost of the best setting, which is checked with its boxes.
func best(t *testing.T, sources []api.Source, order api.Order, gates api.Gates) *big.Rat {
	t.Helper()
	what := fmt.Sprint("Best ", sources, order, gates)
	setting, boxes, e := blend.Best(sources, order, gates)
	if e != api.OK {
		t.Fatalf("%.600s: error %d", what, e)
	}
	expect(t, what+": a whole blend", isWhole(sources, order, gates, setting), true)
	cost := costOf(sources, amountsOf(gates, setting))
	checkBoxes(t, what, sources, order, gates, boxes, func(bound *big.Rat) bool { return bound.Cmp(cost) >= 0 })
	expect(t, what+": CheckBest", blend.CheckBest(sources, order, gates, setting, boxes), api.OK)
	return cost
}

// refuteWhole checks that there is no whole blend.
func refuteWhole(t *testing.T, sources []api.Source, order api.Order, gates api.Gates) {
	t.Helper()
	what := fmt.Sprint("RefuteWhole ", sources, order, gates)
	boxes := ok[[]api.Box](t, what)(blend.RefuteWhole(sources, order, gates))
	checkBoxes(t, what, free(sources), order, gates, boxes, func(bound *big.Rat) bool { return bound.Sign() > 0 })
	expect(t, what+": CheckRefutedWhole", blend.CheckRefutedWhole(sources, order, gates, boxes), api.OK)
	expectError(t, "Best "+what, "Best", args{sources: sources, order: order, gates: gates}, api.ErrInfeasible)
}

func TestBest(t *testing.T) {
	for _, row := range []struct {
		order api.Order
		gates api.Gates
		want  int
	}{
		{exampleOrder(), api.Gates{Step: 20, Most: 2}, 160}, {exampleOrder(), api.Gates{Step: 20, Most: 1}, 200}, {exampleOrder(), api.Gates{Step: 100, Most: 2}, 200},
		{exampleOrder(), api.Gates{Step: 10, Most: 16}, 150}, {exampleOrder(), api.Gates{Step: 4, Most: 2}, 152}, {atMost(100, ""), api.Gates{Step: 20, Most: 1}, 100},
		// There are more settings than MaxLeaves, but no more boxes are needed.
		{exampleOrder(), api.Gates{Step: 1, Most: 2}, 150}, {exampleOrder(), api.Gates{Step: 1, Most: 1}, 200}, {atMost(150, ""), api.Gates{Step: 1, Most: 2}, 200},
	} {
		expect(t, fmt.Sprint("Best ", row), best(t, example(), row.order, row.gates).RatString(), whole(row.want).RatString())
		expectError(t, fmt.Sprint("RefuteWhole ", row), "RefuteWhole", args{sources: example(), order: row.order, gates: row.gates}, api.ErrNone)
	}
	for _, row := range []struct {
		order api.Order
		gates api.Gates
	}{
		{exampleOrder(), api.Gates{Step: 30, Most: 2}}, {exampleOrder(), api.Gates{Step: 20, Most: 0}}, {atMost(100, "11"), api.Gates{Step: 20, Most: 2}}, {atMost(100, "11"), api.Gates{Step: 1, Most: 2}},
		{atMost(120, ""), api.Gates{Step: 20, Most: 1}}, {exampleOrder(), api.Gates{Step: 101, Most: 2}}, {exampleOrder(), api.Gates{Step: api.MaxMass, Most: 2}}, {atMost(201, ""), api.Gates{Step: 1, Most: 2}},
	} {
		refuteWhole(t, example(), row.order, row.gates)
	}
}

// TestBestAgainstAllSettings checks the best settings of problems with few settings, and alternatives to them.
func TestBestAgainstAllSettings(t *testing.T) {
	r := rand.New(rand.NewSource(33))
	counts, crowded, boxes := map[bool]int{}, 0, 0
	for i := range 1500 {
		sources, order := randomProblem(r, []sizes{{3, 2, 9, 2}, {6, 3, 4, 4}, {10, 2, 3, 9}, {3, 0, 9, 1}}[i%4])
		gates := api.Gates{Step: 1 + r.Intn(2), Most: []int{r.Intn(4), 16}[r.Intn(2)]}
		if size(make([]int, len(sources)), greatest(sources, gates)).Cmp(whole(api.MaxLeaves)) > 0 {
			continue
		}
		order.Mass = max(order.Mass-r.Intn(2)*(order.Mass%gates.Step), 1)
		least := cheapest(sources, order, gates, nil)
		counts[least != nil]++
		if least == nil {
			refuteWhole(t, sources, order, gates)
		} else {
			want := costOf(sources, amountsOf(gates, least))
			expect(t, fmt.Sprint("Best ", sources, order, gates), best(t, sources, order, gates).RatString(), want.RatString())
			expectError(t, fmt.Sprint("RefuteWhole ", sources, order, gates), "RefuteWhole", args{sources: sources, order: order, gates: gates}, api.ErrNone)
			_, l, _ := blend.Best(sources, order, gates)
			boxes = max(boxes, len(l))
			if slices.ContainsFunc(l, func(b api.Box) bool { return isCrowded(gates, b) }) {
				crowded++
			}
		}
	}
	if counts[true] < 200 || counts[false] < 200 || crowded < 10 || boxes < 10 {
		t.Errorf("problems with and without whole blends: %v, with crowded boxes: %d, the most boxes: %d", counts, crowded, boxes)
	}
}

// cheapest returns the first one of the cheapest whole blends that are not in a list, or nil.
func cheapest(sources []api.Source, order api.Order, gates api.Gates, listed [][]int) []int {
	var first []int
	var least *big.Rat
	for _, setting := range allSettings(sources, gates) {
		isListed := slices.ContainsFunc(listed, func(l []int) bool { return slices.Equal(l, setting) })
		if isListed || !isWhole(sources, order, gates, setting) {
			continue
		}
		if cost := costOf(sources, amountsOf(gates, setting)); first == nil || cost.Cmp(least) < 0 {
			first, least = setting, cost
		}
	}
	return first
}

// TestManySettings checks problems with more settings than MaxLeaves: where there is a result, it has to be right.
func TestManySettings(t *testing.T) {
	r := rand.New(rand.NewSource(34))
	codes := map[api.Errno]int{}
	for i := range 200 {
		sources, order := randomProblem(r, []sizes{{4, 2, 200, 5}, {7, 3, 900, 9}, {16, 2, 300, 3}}[i%3])
		gates := api.Gates{Step: 1 + r.Intn(20), Most: 1 + r.Intn(16)}
		order.Mass = max(order.Mass-order.Mass%gates.Step, 1)
		_, _, e := blend.Best(sources, order, gates)
		codes[e]++
		switch e {
		case api.OK:
			best(t, sources, order, gates)
			expectError(t, fmt.Sprint("RefuteWhole ", sources, order, gates), "RefuteWhole", args{sources: sources, order: order, gates: gates}, api.ErrNone)
		case api.ErrInfeasible:
			_, e := blend.RefuteWhole(sources, order, gates)
			codes[e]++
			if e == api.OK {
				refuteWhole(t, sources, order, gates)
			}
		}
		isFew := size(make([]int, len(sources)), greatest(sources, gates)).Cmp(whole(api.MaxLeaves)) <= 0
		expect(t, "ErrLimit with few settings", isFew && e == api.ErrLimit, false)
	}
	if codes[api.OK] < 80 || codes[api.ErrInfeasible] < 40 {
		t.Errorf("%v: the sample is one-sided", codes)
	}
	// Each of 16 gates gives 2 kilograms or none, and the order is odd: all settings have to be looked at, or none.
	odd := slices.Repeat([]api.Source{source(3, "1")}, api.MaxSources)
	expectError(t, "an odd order", "RefuteWhole", args{sources: odd, order: api.Order{Mass: 15}, gates: api.Gates{Step: 2, Most: 16}}, api.ErrLimit)
	refuteWhole(t, odd[:10], api.Order{Mass: 9}, api.Gates{Step: 2, Most: 16})
	// Here the quality is odd: halves of the amounts would do.
	odd = slices.Concat(slices.Repeat([]api.Source{source(9, "1", "0", "0")}, 8), slices.Repeat([]api.Source{source(9, "1", "2", "2")}, 8))
	order := api.Order{Mass: 72, Least: []api.Rat{"71/72"}, Most: []api.Rat{"71/72"}}
	for _, name := range []string{"Best", "RefuteWhole", "Next"} {
		expectError(t, name+" of an odd quality", name, args{sources: odd, order: order, gates: api.Gates{Step: 1, Most: 16}}, api.ErrLimit)
	}
}

// TestLongPricesOfBoxes checks that boxes get short prices where there are any.
func TestLongPricesOfBoxes(t *testing.T) {
	gates := api.Gates{Step: 20, Most: 2}
	for _, costs := range [][]api.Rat{{"2", "1"}, {"1/" + nines(600), "1/" + power(599)}, {nines(595), "-" + nines(595)}, {"2/3", "1/" + power(599)}} {
		sources := longSources(100, costs...)
		for _, most := range []api.Rat{"13", "14", "15", near(13, nines(590)), near(15, power(588)), "17"} {
			best(t, sources, atMost(100, most), gates)
		}
		for _, most := range []api.Rat{"11", "12", near(11, nines(595)), near(12, nines(591))} {
			refuteWhole(t, sources, atMost(100, most), gates)
		}
	}
	// Halves would be far cheaper, but exceed the limit by so little that no short price makes up for it.
	tight := args{sources: []api.Source{source(100, nines(600), "12", "12"), source(100, "-"+nines(600), "14", near(14, nines(590)))}, order: atMost(100, "13"), gates: api.Gates{Step: 50, Most: 2}}
	expect(t, "a problem with long numbers", blend.Check(tight.sources, tight.order), api.OK)
	expectError(t, "prices that are too long", "Best", tight, api.ErrLarge)
	tight.sources[0].Cost, tight.sources[1].Cost = "1", "1/2"
	best(t, tight.sources, tight.order, tight.gates)
	// Neither the price of the one limit nor that of the other can be great enough, but both together are.
	seven := "7" + power(599)[1:]
	double := []api.Source{source(100, seven, "12", "12", "12", "12"), source(100, "-"+seven, "16", "16", "16", "16")}
	best(t, double, atMost(100, "27/2", "27/2"), tight.gates)
	expectError(t, "one price that is too long", "Best", args{sources: double, order: atMost(100, "27/2", ""), gates: tight.gates}, api.ErrLarge)
}

func TestNext(t *testing.T) {
	gates := api.Gates{Step: 20, Most: 2}
	var listed [][]int
	for _, want := range [][]int{{3, 2}, {4, 1}, {5, 0}} {
		got := ok[[]int](t, "Next")(blend.Next(example(), exampleOrder(), gates, listed))
		expect(t, fmt.Sprint("Next behind ", listed), got, want)
		listed = append(listed, got)
	}
	expectError(t, "Next behind all", "Next", args{sources: example(), order: exampleOrder(), gates: gates, settings: listed}, api.ErrNone)
	// Lists may have anything; what is no whole blend does not matter.
	odd := [][]int{nil, {3}, {3, 2, 0}, {-1, 6}, {2, 3}, {math.MaxInt, math.MinInt}}
	expect(t, "Next behind others", ok[[]int](t, "Next")(blend.Next(example(), exampleOrder(), gates, odd)), []int{3, 2})
	expect(t, "the first one of equal ones", ok[[]int](t, "Next")(blend.Next([]api.Source{source(9, "1"), source(9, "1")}, api.Order{Mass: 9}, api.Gates{Step: 1, Most: 2}, [][]int{{0, 9}})), []int{1, 8})
	expectErrors(t, "Next", append(gatesFaults(),
		fault{"too many settings in the list", api.ErrMany, func(a *args) { a.settings = make([][]int, api.MaxList+1) }},
		fault{"too many settings", api.ErrLimit, func(a *args) { a.gates.Step = 3 }},
		fault{"an order without a whole blend", api.ErrNone, func(a *args) { a.order = atMost(100, "11") }},
	)...)
	for what, row := range map[string]struct {
		sources []api.Source
		e       api.Errno
	}{
		"as many settings as there may be": {[]api.Source{source(31, "1"), source(31, "1")}, api.OK}, "one row more": {[]api.Source{source(31, "1"), source(32, "1")}, api.ErrLimit},
		"as many of one source": {[]api.Source{source(1023, "1"), source(0, "1")}, api.OK}, "one more": {[]api.Source{source(1024, "1"), source(0, "1")}, api.ErrLimit},
		"far too many": {slices.Repeat([]api.Source{source(api.MaxMass, "1")}, api.MaxSources), api.ErrLimit},
	} {
		_, e := blend.Next(row.sources, api.Order{Mass: 20}, api.Gates{Step: 1, Most: 2}, make([][]int, api.MaxList))
		expect(t, what, e, row.e)
	}
}

func TestNextAgainstAllSettings(t *testing.T) {
	r := rand.New(rand.NewSource(35))
	for i := range 300 {
		sources, order := randomProblem(r, []sizes{{3, 2, 7, 2}, {5, 3, 3, 4}, {3, 0, 9, 1}}[i%3])
		gates := api.Gates{Step: 1 + r.Intn(2), Most: 1 + r.Intn(3)}
		var listed [][]int
		for range 1 + r.Intn(6) {
			what := fmt.Sprint("Next ", sources, order, gates, listed)
			want := cheapest(sources, order, gates, listed)
			got, e := blend.Next(sources, order, gates, listed)
			expectList(t, what, got, want)
			expect(t, what, e, map[bool]api.Errno{true: api.OK, false: api.ErrNone}[want != nil])
			if want == nil {
				break
			}
			listed = append(listed, want)
			if r.Intn(3) == 0 {
				r.Shuffle(len(listed), func(i, k int) { listed[i], listed[k] = listed[k], listed[i] })
			}
		}
	}
}
