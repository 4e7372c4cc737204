package blend_test

import (
	"fmt"
	"math"
	"reflect"
	"slices"
	"strings"
	"testing"

	"bushel/api"
	"bushel/blend"
)

// args are arguments of all functions.
type args struct {
	sources  []api.Source
	order    api.Order
	amounts  []api.Rat
	prices   api.Prices
	s        int
	gates    api.Gates
	setting  []int
	box      api.Box
	boxes    []api.Box
	settings [][]int
	layers   []api.Layer
	masses   []int
}

// prices returns prices of one factor.
func prices(base, most, least api.Rat) api.Prices {
	return api.Prices{Base: base, Most: []api.Rat{most}, Least: []api.Rat{least}}
}

// halves returns a layer of half a and half b.
func halves(grain string, mass int) api.Layer {
	return api.Layer{Grain: grain, Mass: mass, Shares: []api.Share{{Lot: "a", Part: "1/2"}, {Lot: "b", Part: "1/2"}}}
}

// alone returns a layer of one lot.
func alone(grain string, mass int, lot string) api.Layer {
	return api.Layer{Grain: grain, Mass: mass, Shares: []api.Share{{Lot: lot, Part: "1"}}}
}

// proofOfBest are boxes that prove that the best setting of the example costs 160.
func proofOfBest() []api.Box {
	return []api.Box{
		{Low: []int{0, 0}, High: []int{2, 5}, Prices: prices("2", "1/2", "0")},
		{Low: []int{3, 0}, High: []int{5, 5}, Prices: prices("1", "0", "0")},
	}
}

// goodArgs returns arguments with which a function returns no error: those of the document's examples.
func goodArgs(name string) args {
	a := args{
		sources: example(), order: exampleOrder(), amounts: []api.Rat{"50", "50"}, prices: prices("3/2", "1/4", "0"), s: 1,
		gates: api.Gates{Step: 20, Most: 2}, setting: []int{3, 2}, box: proofOfBest()[0], boxes: proofOfBest(), settings: [][]int{{3, 2}},
		layers: []api.Layer{alone("wheat", 600, "a"), halves("wheat", 500), alone("oats", 9, "c")}, masses: []int{600, 400, 0},
	}
	if strings.Contains(name, "Refute") {
		a.order = atMost(100, "11")
		a.prices = prices("1", "1", "0")
		a.boxes = []api.Box{{Low: []int{0, 0}, High: []int{5, 5}, Prices: prices("1", "1", "0")}}
	}
	return a
}

// call calls a function, and returns its results as a list and its error.
type call func(a args) ([]any, api.Errno)

// one makes a call of a function with one result beside its error.
func one[T any](f func(a args) (T, api.Errno)) call {
	return func(a args) ([]any, api.Errno) {
		x, e := f(a)
		return []any{x}, e
	}
}

// two makes a call of a function with two results beside its error.
func two[T, U any](f func(a args) (T, U, api.Errno)) call {
	return func(a args) ([]any, api.Errno) {
		x, y, e := f(a)
		return []any{x, y}, e
	}
}

// bare makes a call of a function that returns an error alone.
func bare(f func(a args) api.Errno) call {
	return func(a args) ([]any, api.Errno) { return nil, f(a) }
}

// calls has a call of each function of the package.
func calls() map[string]call {
	return map[string]call{
		"Check":        bare(func(a args) api.Errno { return blend.Check(a.sources, a.order) }),
		"Holds":        one(func(a args) (bool, api.Errno) { return blend.Holds(a.sources, a.order, a.amounts) }),
		"Quality":      one(func(a args) ([]api.Span, api.Errno) { return blend.Quality(a.sources, a.amounts) }),
		"Cost":         one(func(a args) (api.Rat, api.Errno) { return blend.Cost(a.sources, a.amounts) }),
		"Bound":        one(func(a args) (api.Rat, api.Errno) { return blend.Bound(a.sources, a.order, a.prices) }),
		"Solve":        two(func(a args) ([]api.Rat, api.Prices, api.Errno) { return blend.Solve(a.sources, a.order) }),
		"Value":        one(func(a args) (api.Rat, api.Errno) { return blend.Value(a.sources, a.order) }),
		"CheckSolved":  bare(func(a args) api.Errno { return blend.CheckSolved(a.sources, a.order, a.amounts, a.prices) }),
		"Refute":       one(func(a args) (api.Prices, api.Errno) { return blend.Refute(a.sources, a.order) }),
		"CheckRefuted": bare(func(a args) api.Errno { return blend.CheckRefuted(a.sources, a.order, a.prices) }),
		"Amounts":      one(func(a args) (api.Span, api.Errno) { return blend.Amounts(a.sources, a.order, a.s) }),
		"IsWhole":      one(func(a args) (bool, api.Errno) { return blend.IsWhole(a.sources, a.order, a.gates, a.setting) }),
		"BoxBound":     one(func(a args) (api.Rat, api.Errno) { return blend.BoxBound(a.sources, a.order, a.gates, a.box) }),
		"IsComplete":   one(func(a args) (bool, api.Errno) { return blend.IsComplete(a.sources, a.order, a.gates, a.boxes) }),
		"Best":         two(func(a args) ([]int, []api.Box, api.Errno) { return blend.Best(a.sources, a.order, a.gates) }),
		"CheckBest": bare(func(a args) api.Errno {
			return blend.CheckBest(a.sources, a.order, a.gates, a.setting, a.boxes)
		}),
		"RefuteWhole": one(func(a args) ([]api.Box, api.Errno) { return blend.RefuteWhole(a.sources, a.order, a.gates) }),
		"CheckRefutedWhole": bare(func(a args) api.Errno {
			return blend.CheckRefutedWhole(a.sources, a.order, a.gates, a.boxes)
		}),
		"Next": one(func(a args) ([]int, api.Errno) { return blend.Next(a.sources, a.order, a.gates, a.settings) }),
		"Pour": one(func(a args) (api.Layer, api.Errno) { return blend.Pour(a.layers, a.masses) }),
	}
}

// namesWith returns the names of the functions with arguments that only some have.
func ofOrders() []string {
	return append([]string{"Check", "Holds", "Bound", "Solve", "Value", "CheckSolved", "Refute", "CheckRefuted", "Amounts"}, ofGates()...)
}

func ofGates() []string {
	return append([]string{"IsWhole", "BoxBound", "Best", "RefuteWhole", "Next"}, ofBoxes()...)
}

func ofBoxes() []string { return []string{"IsComplete", "CheckBest", "CheckRefutedWhole"} }

// fault is a change of arguments that causes an error.
type fault struct {
	what   string
	e      api.Errno
	change func(a *args)
}

// expectErrors checks that a function returns the error of each fault, alone and together with all those behind it, and nothing beside it.
func expectErrors(t *testing.T, name string, faults ...fault) {
	t.Helper()
	_, e := calls()[name](goodArgs(name))
	expect(t, name+" of good arguments", e, api.OK)
	for i, f := range faults {
		a := goodArgs(name)
		f.change(&a)
		expectError(t, name+": "+f.what, name, a, f.e)
		a = goodArgs(name)
		for _, later := range slices.Backward(faults[i:]) {
			later.change(&a)
		}
		expectError(t, name+": "+f.what+" and more", name, a, f.e)
	}
}

// expectError checks that a function returns an error, and nothing beside it.
func expectError(t *testing.T, what, name string, a args, want api.Errno) {
	t.Helper()
	results, e := calls()[name](a)
	expect(t, what, e, want)
	for _, x := range results {
		if v := reflect.ValueOf(x); !v.IsZero() && (v.Kind() != reflect.Slice || v.Len() > 0) {
			t.Errorf("%.300s: %v beside an error", what, x)
		}
	}
}

// badNumbers are texts that are not numbers, with their errors.
func badNumbers() map[api.Rat]api.Errno {
	return map[api.Rat]api.Errno{
		"x": api.ErrForm, "-0": api.ErrForm, "01": api.ErrForm, "1.5": api.ErrForm, "2/4": api.ErrForm, "3/1": api.ErrForm,
		"1/0": api.ErrForm, nines(601): api.ErrLarge, "-" + nines(601): api.ErrLarge, "1/" + nines(601): api.ErrLarge,
	}
}

// expectNumberErrors checks that functions return the error of each text that is not a number, in a place of their arguments.
func expectNumberErrors(t *testing.T, isLimit bool, place func(a *args) *api.Rat, names ...string) {
	t.Helper()
	bad := badNumbers()
	if !isLimit {
		bad[""] = api.ErrForm
	}
	for _, name := range names {
		for text, e := range bad {
			a := goodArgs(name)
			*place(&a) = text
			expectError(t, fmt.Sprintf("%s of %.30q", name, string(text)), name, a, e)
		}
	}
}

// worst is a source with all errors that a source can have.
func worst() api.Source { return api.Source{Stock: -1, Cost: "x"} }

// sourceFaults are the errors of a source, as one behind others without errors.
func sourceFaults() []fault {
	add := func(a *args, s api.Source) { a.sources = append(a.sources[:min(2, len(a.sources))], s, worst()) }
	return []fault{
		{"a negative stock", api.ErrRange, func(a *args) { add(a, api.Source{Stock: -1, Cost: "x"}) }},
		{"a stock that is too great", api.ErrRange, func(a *args) { add(a, api.Source{Stock: api.MaxMass + 1, Cost: "x"}) }},
		{"the least stock", api.ErrRange, func(a *args) { add(a, api.Source{Stock: math.MinInt, Cost: "x"}) }},
		{"a cost that is no number", api.ErrForm, func(a *args) { add(a, api.Source{Cost: "2/4"}) }},
		{"a cost that is too long", api.ErrLarge, func(a *args) { add(a, api.Source{Stock: api.MaxMass, Cost: nines(601)}) }},
		{"too few intervals", api.ErrShape, func(a *args) { add(a, source(1, "1")) }},
		{"too many intervals", api.ErrShape, func(a *args) { add(a, source(1, "1", "x", "x", "1", "1")) }},
		{"a Low that is no number", api.ErrForm, func(a *args) { add(a, source(1, "1", "", nines(601))) }},
		{"a High that is no number", api.ErrLarge, func(a *args) { add(a, source(1, "1", "1", nines(601))) }},
		{"a Low above High", api.ErrOrder, func(a *args) { add(a, source(1, "1", "2", "1")) }},
	}
}

// problemFaults are the errors of Check, in their order.
func problemFaults() []fault {
	many := slices.Repeat([]api.Source{worst()}, api.MaxSources+1)
	faults := []fault{
		{"no sources", api.ErrShape, func(a *args) { a.sources = nil }},
		{"too many sources", api.ErrMany, func(a *args) { a.sources = many }},
		{"too many factors", api.ErrMany, func(a *args) { a.order.Least = make([]api.Rat, api.MaxFactors+1) }},
		{"more greatest values", api.ErrShape, func(a *args) { a.order.Most = make([]api.Rat, len(a.order.Least)+1) }},
		{"fewer greatest values", api.ErrShape, func(a *args) { a.order.Most = make([]api.Rat, len(a.order.Least)-1) }},
	}
	return append(append(faults, sourceFaults()...), []fault{
		{"no mass", api.ErrRange, func(a *args) { a.order.Mass = 0 }},
		{"a negative mass", api.ErrRange, func(a *args) { a.order.Mass = math.MinInt }},
		{"a mass that is too great", api.ErrRange, func(a *args) { a.order.Mass = api.MaxMass + 1 }},
		{"a least value that is no number", api.ErrForm, func(a *args) { a.order.Least = []api.Rat{"x"} }},
		{"a least value that is too long", api.ErrLarge, func(a *args) { a.order.Least = []api.Rat{nines(601)} }},
		{"a greatest value that is no number", api.ErrForm, func(a *args) { a.order.Most = []api.Rat{"x"} }},
		{"a greatest value that is too long", api.ErrLarge, func(a *args) { a.order.Most = []api.Rat{nines(601)} }},
	}...)
}

// amountsFaults are the errors of amounts.
func amountsFaults() []fault {
	return []fault{
		{"no amounts", api.ErrShape, func(a *args) { a.amounts = nil }},
		{"too many amounts", api.ErrShape, func(a *args) { a.amounts = []api.Rat{"x", "1", "1"} }},
		{"an amount that is no number", api.ErrForm, func(a *args) { a.amounts = []api.Rat{"", nines(601)} }},
		{"an amount that is too long", api.ErrLarge, func(a *args) { a.amounts = []api.Rat{"-1", nines(601)} }},
	}
}

// pricesFaults are the errors of prices, in their order.
func pricesFaults(place func(a *args) *api.Prices) []fault {
	change := func(x api.Prices) func(a *args) { return func(a *args) { *place(a) = x } }
	long := nines(601)
	return []fault{
		{"no prices of greatest values", api.ErrShape, change(api.Prices{Base: "x", Least: []api.Rat{"x"}})},
		{"too many of them", api.ErrShape, change(api.Prices{Base: "x", Most: []api.Rat{"x", "x"}, Least: []api.Rat{"x"}})},
		{"no prices of least values", api.ErrShape, change(api.Prices{Base: "x", Most: []api.Rat{"x"}})},
		{"too many of those", api.ErrShape, change(api.Prices{Base: "x", Most: []api.Rat{"x"}, Least: []api.Rat{"x", "x"}})},
		{"a base that is no number", api.ErrForm, change(prices("", long, long))},
		{"a base that is too long", api.ErrLarge, change(prices(long, "x", "x"))},
		{"a price of Most that is no number", api.ErrForm, change(prices("1", "", long))},
		{"a price of Most that is too long", api.ErrLarge, change(prices("1", long, "x"))},
		{"a price of Least that is no number", api.ErrForm, change(prices("1", "-1", ""))},
		{"a price of Least that is too long", api.ErrLarge, change(prices("1", "-1", long))},
		{"a negative price of Most", api.ErrRange, change(prices("-1", "-1/3", "0"))},
		{"a negative price of Least", api.ErrRange, change(prices("-1", "0", "-"+nines(600)))},
	}
}

// gatesFaults are the errors of gates.
func gatesFaults() []fault {
	return []fault{
		{"no step", api.ErrRange, func(a *args) { a.gates.Step = 0 }},
		{"a negative step", api.ErrRange, func(a *args) { a.gates.Step = math.MinInt }},
		{"a step that is too great", api.ErrRange, func(a *args) { a.gates.Step = api.MaxMass + 1 }},
		{"fewer sources than none", api.ErrRange, func(a *args) { a.gates.Most = -1 }},
		{"more sources than there can be", api.ErrRange, func(a *args) { a.gates.Most = api.MaxSources + 1 }},
	}
}

// boxFaults are the errors of a box, in their order.
func boxFaults(place func(a *args) *api.Box) []fault {
	ends := func(low, high []int) func(a *args) {
		return func(a *args) { place(a).Low, place(a).High = low, high }
	}
	faults := []fault{
		{"too few Lows", api.ErrShape, ends([]int{-1}, []int{5, 5})},
		{"too many Lows", api.ErrShape, ends([]int{-1, 0, 0}, []int{5, 5})},
		{"no Highs", api.ErrShape, ends([]int{-1, 0}, nil)},
		{"too many Highs", api.ErrShape, ends([]int{0, 0}, []int{9, 9, 9})},
		{"a negative Low", api.ErrRange, ends([]int{-1, 0}, []int{5, 5})},
		{"the least Low", api.ErrRange, ends([]int{0, math.MinInt}, []int{5, math.MaxInt})},
		{"a Low above High", api.ErrRange, ends([]int{0, 3}, []int{5, 2})},
		{"a High above the greatest multiple", api.ErrRange, ends([]int{0, 0}, []int{5, 6})},
		{"the greatest High", api.ErrRange, ends([]int{0, 0}, []int{math.MaxInt, 5})},
	}
	return append(faults, pricesFaults(func(a *args) *api.Prices { return &place(a).Prices })...)
}

// boxesFaults are the errors of boxes, in their order.
func boxesFaults() []fault {
	bad, zero := api.Box{Low: []int{-1}}, api.Box{Low: []int{0, 0}, High: []int{0, 0}, Prices: prices("0", "0", "0")}
	many := func(a *args) { a.boxes = slices.Repeat([]api.Box{bad}, api.MaxLeaves+1) }
	faults := []fault{{"too many boxes", api.ErrMany, many}}
	for _, f := range boxFaults(func(a *args) *api.Box { return &a.boxes[1] }) {
		faults = append(faults, fault{"a second box with " + f.what, f.e, func(a *args) {
			a.boxes = []api.Box{zero, zero, bad}
			f.change(a)
		}})
	}
	return faults
}
