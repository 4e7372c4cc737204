package blend_test

import (
	"fmt"
	"math"
	"math/big"
	"math/rand"
	"slices"
	"testing"

	"bushel/api"
	"bushel/blend"
	"bushel/measure"
)

// P7.9: pouring.

func TestPour(t *testing.T) {
	wheat, mixed, oats := alone("wheat", 600, "a"), halves("wheat", 500), alone("oats", 9, "c")
	share := func(lot string, part api.Rat) api.Share { return api.Share{Lot: lot, Part: part} }
	for _, row := range []struct {
		layers []api.Layer
		masses []int
		want   api.Layer
	}{
		{[]api.Layer{wheat, mixed}, []int{600, 400}, api.Layer{Grain: "wheat", Mass: 1000, Shares: []api.Share{share("a", "4/5"), share("b", "1/5")}}},
		{[]api.Layer{wheat, mixed}, []int{1, 2}, api.Layer{Grain: "wheat", Mass: 3, Shares: []api.Share{share("a", "2/3"), share("b", "1/3")}}},
		// A layer that is not used may have another grain.
		{[]api.Layer{wheat, oats, mixed}, []int{0, 0, 500}, mixed}, {[]api.Layer{wheat, oats, mixed}, []int{0, 7, 0}, alone("oats", 7, "c")},
		{[]api.Layer{oats}, []int{9}, oats},
	} {
		what := fmt.Sprint("Pour ", row.layers, row.masses)
		expect(t, what, ok[api.Layer](t, what)(blend.Pour(row.layers, row.masses)), row.want)
	}
}

func TestErrorsOfPour(t *testing.T) {
	bad := api.Layer{Grain: "", Mass: -1}
	layers := func(l ...api.Layer) func(a *args) {
		return func(a *args) { a.layers, a.masses = append(l, bad), make([]int, len(l)+1) }
	}
	masses := func(l ...int) func(a *args) { return func(a *args) { a.masses = l } }
	expectErrors(t, "Pour",
		fault{"no layers", api.ErrShape, func(a *args) { a.layers, a.masses = nil, nil }},
		fault{"no layers, but masses", api.ErrShape, func(a *args) { a.layers, a.masses = nil, []int{-1} }},
		fault{"too few masses", api.ErrShape, func(a *args) { a.layers, a.masses = []api.Layer{bad, bad}, []int{-1} }},
		fault{"too many masses", api.ErrShape, func(a *args) {
			a.layers, a.masses = slices.Repeat([]api.Layer{bad}, api.MaxSources+1), make([]int, api.MaxSources+2)
		}},
		fault{"too many layers", api.ErrMany, func(a *args) {
			a.layers, a.masses = slices.Repeat([]api.Layer{bad}, api.MaxSources+1), make([]int, api.MaxSources+1)
		}},
		fault{"a layer without a grain", api.ErrName, layers(alone("oats", 1, "a"), alone("", 0, "a"))},
		fault{"a layer without a mass", api.ErrRange, layers(alone("oats", 1, "a"), alone("oats", 0, "?"))},
		fault{"a layer without shares", api.ErrShape, layers(api.Layer{Grain: "oats", Mass: 1})},
		fault{"a layer with a bad share", api.ErrName, layers(alone("oats", 1, "a"), alone("oats", 1, "?"))},
	)
	expectErrors(t, "Pour",
		fault{"a negative mass", api.ErrRange, masses(601, -1, 0)},
		fault{"more than there is", api.ErrRange, masses(0, 501, 0)},
		fault{"the least mass", api.ErrRange, masses(0, 0, math.MinInt)},
		fault{"the greatest mass", api.ErrRange, masses(0, 0, math.MaxInt)},
		fault{"masses of 0", api.ErrZero, masses(0, 0, 0)},
		fault{"two grains", api.ErrGrain, masses(1, 0, 1)},
	)
	full := []api.Layer{alone("oats", api.MaxMass, "a"), alone("oats", 1, "b")}
	expectError(t, "too great a mass", "Pour", args{layers: full, masses: []int{api.MaxMass, 1}}, api.ErrLarge)
	expect(t, "the greatest mass", ok[api.Layer](t, "Pour")(blend.Pour(full, []int{api.MaxMass - 1, 1})).Mass, api.MaxMass)
}

// manyLots returns a layer of so many lots from a number on.
func manyLots(count, from int) api.Layer {
	l := api.Layer{Grain: "rye", Mass: 10}
	for i := range count {
		l.Shares = append(l.Shares, api.Share{Lot: fmt.Sprintf("lot-%03d", from+i), Part: ofBig(big.NewRat(1, int64(count)))})
	}
	return l
}

func TestPourOfManyLots(t *testing.T) {
	l := []api.Layer{manyLots(40, 0), manyLots(40, 24), manyLots(2, 900)}
	expect(t, "as many lots as there may be", len(ok[api.Layer](t, "Pour")(blend.Pour(l, []int{10, 1, 0})).Shares), api.MaxLots)
	expect(t, "other lots", len(ok[api.Layer](t, "Pour")(blend.Pour(l, []int{10, 0, 10})).Shares), 42)
	expectError(t, "too many lots", "Pour", args{layers: l, masses: []int{1, 1, 1}}, api.ErrMany)
	// The parts are short, but those of the mixture are not.
	long := []api.Layer{
		{Grain: "rye", Mass: 3, Shares: []api.Share{{Lot: "a", Part: "1/" + nines(600)}, {Lot: "b", Part: ofBig(sub(whole(1), toBig("1/"+nines(600))))}}},
		{Grain: "rye", Mass: 3, Shares: []api.Share{{Lot: "a", Part: "1/" + power(599)}, {Lot: "b", Part: ofBig(sub(whole(1), toBig("1/"+power(599))))}}},
	}
	expectError(t, "long parts", "Pour", args{layers: long, masses: []int{1, 1}}, api.ErrLarge)
	expect(t, "one of them", ok[api.Layer](t, "Pour")(blend.Pour(long, []int{0, 2})).Shares, long[1].Shares)
}

// TestPourAgainstMix checks that Pour does what Mix does with the layers that are used.
func TestPourAgainstMix(t *testing.T) {
	r := rand.New(rand.NewSource(41))
	codes := map[api.Errno]int{}
	for range 1000 {
		var layers, used []api.Layer
		var masses []int
		for range 1 + r.Intn(api.MaxSources) {
			l := []api.Layer{alone("wheat", 1+r.Intn(9), "c"), halves("wheat", 1+r.Intn(9)), manyLots(1+r.Intn(40), r.Intn(40))}[r.Intn(3)]
			if l.Grain = "wheat"; r.Intn(60) == 0 {
				l.Grain = "rye"
			}
			mass := r.Intn(2) * r.Intn(l.Mass+1)
			layers, masses = append(layers, l), append(masses, mass)
			if l.Mass = mass; mass > 0 {
				used = append(used, l)
			}
		}
		want, e := measure.Mix(used)
		if len(used) == 0 {
			e = api.ErrZero
		}
		got, f := blend.Pour(layers, masses)
		expect(t, fmt.Sprint("Pour ", layers, masses), []any{got, f}, []any{want, e})
		codes[e]++
	}
	for _, e := range []api.Errno{api.OK, api.ErrZero, api.ErrGrain, api.ErrMany} {
		if codes[e] == 0 {
			t.Errorf("%v: the sample is one-sided", codes)
		}
	}
}
