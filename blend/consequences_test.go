package blend_test

import (
	"fmt"
	"math"
	"math/big"
	"math/rand"
	"slices"
	"testing"

	"bushel/api"
	"bushel/blend"
)

// P7.10, P2 and P7: what follows from the other promises, and what holds for all functions.

// randomBlend returns amounts of a problem that has a blend: those of the least cost with other costs, or a mean of two such.
func randomBlend(t *testing.T, r *rand.Rand, sources []api.Source, order api.Order) []api.Rat {
	t.Helper()
	corner := func() []api.Rat {
		other := slices.Clone(sources)
		for i := range other {
			other[i].Cost = ofBig(randomRat(r, -5, 5, 3))
		}
		amounts, _, e := blend.Solve(other, order)
		expect(t, "Solve with other costs", e, api.OK)
		return amounts
	}
	a, b, weight := corner(), corner(), randomRat(r, 0, 1, 4)
	var amounts []api.Rat
	for i := range a {
		amounts = append(amounts, ofBig(add(mul(weight, toBig(a[i])), mul(sub(whole(1), weight), toBig(b[i])))))
	}
	return amounts
}

// isIn reports whether a number is within limits, of which each may be empty.
func isIn(n *big.Rat, least, most api.Rat) bool {
	return (least == "" || n.Cmp(toBig(least)) >= 0) && (most == "" || n.Cmp(toBig(most)) <= 0)
}

func TestBlendsAreRightForAllValues(t *testing.T) {
	r := rand.New(rand.NewSource(51))
	blends := 0
	for i := range 600 {
		sources, order := randomProblem(r, []sizes{{3, 2, 9, 1}, {5, 3, 50, 3}}[i%2])
		if _, e := blend.Value(sources, order); e != api.OK {
			continue
		}
		blends++
		amounts := randomBlend(t, r, sources, order)
		what := fmt.Sprint(sources, order, amounts)
		expect(t, "Holds "+what, ok[bool](t, what)(blend.Holds(sources, order, amounts)), true)
		cost := toBig(ok[api.Rat](t, what)(blend.Cost(sources, amounts)))
		quality := ok[[]api.Span](t, what)(blend.Quality(sources, amounts))
		for range 5 {
			bound := toBig(ok[api.Rat](t, what)(blend.Bound(sources, order, randomPrices(r, order))))
			expect(t, "a bound is at most the cost "+what, bound.Cmp(cost) <= 0, true)
			for f := range order.Least {
				sum := sumOf(len(sources), func(i int) *big.Rat {
					q := sources[i].Quality[f]
					value := add(toBig(q.Low), mul(randomRat(r, 0, 1, 3), sub(toBig(q.High), toBig(q.Low))))
					return mul(toBig(amounts[i]), value)
				})
				mean := new(big.Rat).Quo(sum, whole(order.Mass))
				expect(t, "the mean is within the limits "+what, isIn(mean, order.Least[f], order.Most[f]), true)
				expect(t, "the mean is within the quality "+what, isIn(mean, quality[f].Low, quality[f].High), true)
			}
		}
	}
	if blends < 100 {
		t.Errorf("only %d problems have a blend", blends)
	}
}

// ease makes a problem easier in one place.
func ease(r *rand.Rand, sources []api.Source, order api.Order) ([]api.Source, api.Order) {
	sources, order = slices.Clone(sources), api.Order{Mass: order.Mass, Least: slices.Clone(order.Least), Most: slices.Clone(order.Most)}
	s := &sources[r.Intn(len(sources))]
	kind := r.Intn(4)
	if len(order.Least) == 0 {
		kind = r.Intn(2)
	}
	switch kind {
	case 0:
		s.Cost = ofBig(sub(toBig(s.Cost), randomRat(r, 0, 2, 3)))
	case 1:
		s.Stock += r.Intn(9)
	case 2:
		least := &order.Least[r.Intn(len(order.Least))]
		if *least != "" {
			*least = []api.Rat{"", ofBig(sub(toBig(*least), randomRat(r, 0, 2, 3)))}[r.Intn(2)]
		}
	case 3:
		most := &order.Most[r.Intn(len(order.Most))]
		if *most != "" {
			*most = []api.Rat{"", ofBig(add(toBig(*most), randomRat(r, 0, 2, 3)))}[r.Intn(2)]
		}
	}
	return sources, order
}

func TestEasierProblemsCostNoMore(t *testing.T) {
	r := rand.New(rand.NewSource(52))
	changes := map[string]int{}
	for i := range 2000 {
		sources, order := randomProblem(r, []sizes{{3, 2, 9, 1}, {5, 3, 50, 3}}[i%2])
		before, e := blend.Value(sources, order)
		sources, order = ease(r, sources, order)
		after, f := blend.Value(sources, order)
		what := fmt.Sprint(sources, order, before, after)
		switch {
		case e != api.OK:
			changes[fmt.Sprint("no blend before, error ", f)]++
		case f != api.OK:
			t.Errorf("%s: no blend any more", what)
		default:
			compared := toBig(after).Cmp(toBig(before))
			expect(t, what, compared <= 0, true)
			changes[fmt.Sprint("compared ", compared)]++
		}
	}
	if len(changes) != 4 {
		t.Errorf("%v: the sample is one-sided", changes)
	}
}

func TestNextVisitsWholeBlendsInOrder(t *testing.T) {
	r := rand.New(rand.NewSource(53))
	visited := 0
	for i := range 200 {
		sources, order := randomProblem(r, []sizes{{3, 2, 7, 2}, {5, 1, 3, 2}}[i%2])
		gates := api.Gates{Step: 1, Most: 1 + r.Intn(5)}
		var want [][]int
		for _, setting := range allSettings(sources, gates) {
			if isWhole(sources, order, gates, setting) {
				want = append(want, setting)
			}
		}
		slices.SortStableFunc(want, func(a, b []int) int {
			return costOf(sources, amountsOf(gates, a)).Cmp(costOf(sources, amountsOf(gates, b)))
		})
		if len(want) > 30 {
			continue
		}
		value, _ := blend.Value(sources, order)
		var settings [][]int
		for setting, e := blend.Next(sources, order, gates, nil); e == api.OK; setting, e = blend.Next(sources, order, gates, settings) {
			settings = append(settings, setting)
			expect(t, "a whole blend costs no less than Value", costOf(sources, amountsOf(gates, setting)).Cmp(toBig(value)) >= 0, true)
		}
		expectList(t, fmt.Sprint("Next ", sources, order, gates), settings, want)
		visited += len(settings)
	}
	if visited < 200 {
		t.Errorf("only %d settings were visited", visited)
	}
}

// roomy returns a copy of a list with room behind it.
func roomy[T any](l []T) []T { return append(make([]T, 0, len(l)+9), l...) }

// roomyPrices and roomyBox return copies with room behind their lists.
func roomyPrices(x api.Prices) api.Prices {
	return api.Prices{Base: x.Base, Most: roomy(x.Most), Least: roomy(x.Least)}
}

func roomyBox(b api.Box) api.Box {
	return api.Box{Low: roomy(b.Low), High: roomy(b.High), Prices: roomyPrices(b.Prices)}
}

// roomyArgs returns a copy of arguments with room behind all lists.
func roomyArgs(a args) args {
	a.sources, a.amounts, a.setting, a.boxes, a.settings, a.layers, a.masses = roomy(a.sources), roomy(a.amounts), roomy(a.setting), roomy(a.boxes), roomy(a.settings), roomy(a.layers), roomy(a.masses)
	a.order.Least, a.order.Most, a.prices, a.box = roomy(a.order.Least), roomy(a.order.Most), roomyPrices(a.prices), roomyBox(a.box)
	for i := range a.sources {
		a.sources[i].Quality = roomy(a.sources[i].Quality)
	}
	for i := range a.boxes {
		a.boxes[i] = roomyBox(a.boxes[i])
	}
	for i := range a.settings {
		a.settings[i] = roomy(a.settings[i])
	}
	for i := range a.layers {
		a.layers[i].Shares = roomy(a.layers[i].Shares)
	}
	return a
}

// rooms returns what is in the room behind the lists of arguments.
func rooms(a args) string {
	behind := fmt.Sprint(room(a.sources), room(a.amounts), room(a.setting), room(a.boxes), room(a.settings), room(a.layers), room(a.masses), room(a.order.Least), room(a.order.Most))
	for _, x := range append([]api.Prices{a.prices, a.box.Prices}, pricesOf(a.boxes)...) {
		behind += fmt.Sprint(room(x.Most), room(x.Least))
	}
	for _, b := range append([]api.Box{a.box}, a.boxes...) {
		behind += fmt.Sprint(room(b.Low), room(b.High))
	}
	for _, s := range a.sources {
		behind += fmt.Sprint(room(s.Quality))
	}
	for _, l := range a.layers {
		behind += fmt.Sprint(room(l.Shares))
	}
	return behind
}

// room returns what is in the room behind a list.
func room[T any](l []T) []T { return l[len(l):cap(l)] }

// pricesOf returns the prices of boxes.
func pricesOf(boxes []api.Box) []api.Prices {
	var l []api.Prices
	for _, b := range boxes {
		l = append(l, b.Prices)
	}
	return l
}

// spoil overwrites a result.
func spoil(x any) {
	switch x := x.(type) {
	case []int:
		fill(x, -99)
	case []api.Rat:
		fill(x, "spoilt")
	case []api.Span:
		fill(x, span("spoilt", "spoilt"))
	case api.Prices:
		fill(x.Most, "spoilt")
		fill(x.Least, "spoilt")
	case []api.Box:
		for _, b := range x {
			fill(b.Low, -99)
			fill(b.High, -99)
			spoil(b.Prices)
		}
	case api.Layer:
		fill(x.Shares, api.Share{Lot: "spoilt"})
	}
}

// fill overwrites a list.
func fill[T any](l []T, x T) {
	for i := range l {
		l[i] = x
	}
}

// TestArgumentsStayAsTheyAre checks that no function changes its arguments, nor the room behind them, and that each one returns the same results again.
func TestArgumentsStayAsTheyAre(t *testing.T) {
	for name, f := range calls() {
		a := roomyArgs(goodArgs(name))
		before, behind := roomyArgs(a), rooms(a)
		first, e := f(a)
		expect(t, name, e, api.OK)
		second, _ := f(a)
		expect(t, name+" again", second, first)
		for _, x := range first {
			spoil(x)
		}
		third, _ := f(before)
		expect(t, name+": the arguments", a, before)
		expect(t, name+": another result", second, third)
		expect(t, name+": the room behind arguments", rooms(a), behind)
	}
}

// TestListsOfResultsShareNoMemory checks the lists of the boxes of one result.
func TestListsOfResultsShareNoMemory(t *testing.T) {
	sources := []api.Source{source(5, "1", "9", "9"), source(5, "2", "9", "9"), source(5, "3", "9", "9")}
	for _, most := range []int{1, 2, 3} {
		gates := api.Gates{Step: 1, Most: most}
		for _, mass := range []int{5, 7, 12} {
			_, boxes, e := blend.Best(sources, atMost(mass, "10"), gates)
			if e == api.ErrInfeasible {
				boxes, e = blend.RefuteWhole(sources, atMost(mass, "10"), gates)
			}
			expect(t, "the error", e, api.OK)
			for i := range boxes {
				b := &boxes[i]
				for _, l := range [][]int{b.Low, b.High} {
					fill(l, 100+i)
				}
				fill(b.Prices.Most, api.Rat(fmt.Sprint("most", i)))
				fill(b.Prices.Least, api.Rat(fmt.Sprint("least", i)))
			}
			for i, b := range boxes {
				expect(t, "the prices", []api.Rat{b.Prices.Most[0], b.Prices.Least[0]}, []api.Rat{api.Rat(fmt.Sprint("most", i)), api.Rat(fmt.Sprint("least", i))})
				expect(t, "the ends", slices.Concat(b.Low, b.High), slices.Repeat([]int{100 + i}, 6))
			}
		}
	}
}

// disturb makes one of the arguments any value.
func disturb(r *rand.Rand, a *args) {
	n := []int{math.MinInt, -1, 0, 1, 2, 5, 6, 16, 17, 100, api.MaxMass, api.MaxMass + 1, math.MaxInt}[r.Intn(13)]
	text := []api.Rat{"", "0", "-1", "1", "100", "1/3", "2/6", nines(600), nines(601), "-" + nines(600), "1/" + nines(600), "x", "15", "99"}[r.Intn(14)]
	length := []int{0, 1, 2, 8, 9, 16, 17, 256, 257, 1024, 1025}[r.Intn(11)]
	ints := slices.Repeat([]int{n}, length)
	texts := slices.Repeat([]api.Rat{text}, length)
	changes := []func(){
		func() { a.sources = make([]api.Source, length) }, func() { a.sources = slices.Repeat(a.sources[:1], length) }, func() { a.sources[r.Intn(2)].Stock = n }, func() { a.sources[r.Intn(2)].Cost = text },
		func() { a.sources[r.Intn(2)].Quality = make([]api.Span, length) }, func() { a.sources[r.Intn(2)].Quality[0].Low = text }, func() { a.sources[r.Intn(2)].Quality[0].High = text },
		func() { a.order.Mass = n }, func() { a.order.Least = texts }, func() { a.order.Most = texts }, func() { a.order.Least[0] = text }, func() { a.order.Most[0] = text },
		func() { a.amounts = texts }, func() { a.amounts[r.Intn(2)] = text }, func() { a.prices.Base = text }, func() { a.prices.Most = texts }, func() { a.prices.Least = texts }, func() { a.prices.Most[0] = text },
		func() { a.s = n }, func() { a.gates.Step = n }, func() { a.gates.Most = n }, func() { a.setting = ints }, func() { a.setting[r.Intn(2)] = n },
		func() { a.box.Low = ints }, func() { a.box.High[r.Intn(2)] = n }, func() { a.box.Prices = api.Prices{} }, func() { a.boxes = make([]api.Box, length) }, func() { a.boxes = slices.Repeat(a.boxes[:1], length) },
		func() { a.boxes[0].Low[r.Intn(2)] = n }, func() { a.boxes[0].High = ints }, func() { a.boxes[0].Prices.Base = text },
		func() { a.settings = make([][]int, length) }, func() { a.settings[0] = ints }, func() { a.settings = nil },
		func() { a.layers = make([]api.Layer, length) }, func() { a.layers[r.Intn(3)].Mass = n }, func() { a.layers[r.Intn(3)].Shares[0].Part = text }, func() { a.masses = ints }, func() { a.masses[r.Intn(3)] = n },
	}
	changes[r.Intn(len(changes))]()
}

// TestAllArguments checks that all functions return for arguments of any form.
func TestAllArguments(t *testing.T) {
	r := rand.New(rand.NewSource(54))
	codes := map[api.Errno]int{}
	for range 2000 {
		changes := 1 + r.Intn(4)
		seed := r.Int63()
		for name, f := range calls() {
			a := roomyArgs(goodArgs(name))
			other := rand.New(rand.NewSource(seed))
			for range changes {
				func() {
					// Some changes need what others have removed.
					defer func() { _ = recover() }()
					disturb(other, &a)
				}()
			}
			_, e := f(a)
			codes[e]++
			if e != api.OK {
				expectError(t, name, name, a, e)
			}
		}
	}
	for _, e := range []api.Errno{api.OK, api.ErrForm, api.ErrShape, api.ErrRange, api.ErrLarge, api.ErrMany, api.ErrZero, api.ErrNone, api.ErrUnknown, api.ErrProof, api.ErrInfeasible, api.ErrLimit} {
		if codes[e] == 0 {
			t.Errorf("no function returned the error %d", e)
		}
	}
	for name, f := range calls() {
		_, e := f(args{})
		expect(t, name+" of nothing", e, api.ErrShape)
	}
}
