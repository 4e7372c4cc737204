package measure_test

import (
	"math/big"
	"math/rand"
	"slices"
	"strconv"
	"testing"

	"bushel/api"
	"bushel/measure"
)

// P1.4 and P2: what follows from the promises of numbers, spans and masses.

// valuesOf returns both ends of a span, and a value between them.
func valuesOf(t *testing.T, r *rand.Rand, s api.Span) []api.Rat {
	t.Helper()
	get := must[api.Rat](t)
	part := get(measure.Of(r.Intn(100), 99))
	inside := get(measure.Add(s.Low, get(measure.Mul(part, get(measure.Sub(s.High, s.Low))))))
	return []api.Rat{s.Low, s.High, inside}
}

// contains reports whether a value is in a span.
func contains(t *testing.T, s api.Span, a api.Rat) bool {
	t.Helper()
	get := must[int](t)
	return get(measure.Compare(s.Low, a)) <= 0 && get(measure.Compare(a, s.High)) <= 0
}

// within reports values that are not in the span, and ends of the span that are not among the values.
func within(t *testing.T, what string, s api.Span, values []api.Rat) {
	t.Helper()
	for _, a := range values {
		if !contains(t, s, a) {
			t.Errorf("%s: %s is not from %s to %s", what, a, s.Low, s.High)
		}
	}
	if !slices.Contains(values, s.Low) || !slices.Contains(values, s.High) {
		t.Errorf("%s: an end of %s to %s is not reached", what, s.Low, s.High)
	}
}

func TestOperationsStayInTheirSpansAndReachTheEnds(t *testing.T) {
	r := rand.New(rand.NewSource(6))
	get := must[api.Rat](t)
	for i := range 500 {
		a, b := randomSpan(t, r, 1+i%6), randomSpan(t, r, 1+i%6)
		for name, row := range map[string]struct {
			spans   func(a, b api.Span) (api.Span, api.Errno)
			numbers func(a, b api.Rat) (api.Rat, api.Errno)
		}{"AddSpans": {measure.AddSpans, measure.Add}, "SubSpans": {measure.SubSpans, measure.Sub}, "MulSpans": {measure.MulSpans, measure.Mul}} {
			var values []api.Rat
			for _, x := range valuesOf(t, r, a) {
				for _, y := range valuesOf(t, r, b) {
					values = append(values, get(row.numbers(x, y)))
				}
			}
			within(t, name, must[api.Span](t)(row.spans(a, b)), values)
		}
	}
}

func TestMeansStayInTheirSpanAndReachTheEnds(t *testing.T) {
	r := rand.New(rand.NewSource(7))
	get := must[api.Rat](t)
	for range 300 {
		l := []api.Span{randomSpan(t, r, 4), randomSpan(t, r, 4), randomSpan(t, r, 4)}
		weights := []int{r.Intn(5), 1 + r.Intn(5), r.Intn(1000000000)}
		total := get(measure.Of(weights[0]+weights[1]+weights[2], 1))
		var values []api.Rat
		for _, x := range valuesOf(t, r, l[0]) {
			for _, y := range valuesOf(t, r, l[1]) {
				for _, z := range valuesOf(t, r, l[2]) {
					sum := api.Rat("0")
					for i, v := range []api.Rat{x, y, z} {
						sum = get(measure.Add(sum, get(measure.Mul(v, get(measure.Of(weights[i], 1))))))
					}
					values = append(values, get(measure.Div(sum, total)))
				}
			}
		}
		within(t, "Mean", must[api.Span](t)(measure.Mean(l, weights)), values)
	}
}

func TestHullMeetAndClashBelongTogether(t *testing.T) {
	r := rand.New(rand.NewSource(8))
	for range 1000 {
		l := make([]api.Span, 1+r.Intn(5))
		var values []api.Rat
		for i := range l {
			low := r.Intn(8)
			l[i] = span(api.Rat(strconv.Itoa(low)), api.Rat(strconv.Itoa(low+r.Intn(8))))
			values = append(values, l[i].Low, l[i].High)
		}
		within(t, "Hull", must[api.Span](t)(measure.Hull(l)), values)
		meet, e := measure.Meet(l)
		i, k, clash := measure.Clash(l)
		if (e == api.ErrConflict) != (clash == api.OK) {
			t.Errorf("Meet of %v returns %d, and Clash %d", l, e, clash)
		}
		if e == api.OK {
			for _, v := range values {
				inAll := !slices.ContainsFunc(l, func(s api.Span) bool { return !contains(t, s, v) })
				expect(t, "Meet contains "+string(v), contains(t, meet, v), inAll)
			}
			continue
		}
		_, e = measure.Meet([]api.Span{l[i], l[k]})
		expect(t, "Meet of the two that clash", e, api.ErrConflict)
	}
}

func TestRoundingKeepsTheOrderAndIsIdempotent(t *testing.T) {
	r := rand.New(rand.NewSource(9))
	get, order := must[api.Rat](t), must[int](t)
	for i := range 400 {
		step := api.Rat(new(big.Rat).SetFrac64(1+r.Int63n(20), 1+r.Int63n(20)).RatString())
		s := randomSpan(t, r, 1+i%3)
		for _, kind := range []string{"down", "up", "half-up", "half-even"} {
			rule := api.Rounding{Kind: kind, Step: step}
			low, high := get(measure.Round(s.Low, rule)), get(measure.Round(s.High, rule))
			if order(measure.Compare(low, high)) > 0 {
				t.Errorf("%s %s: %s and %s become %s and %s", kind, step, s.Low, s.High, low, high)
			}
			expect(t, "Round of what is rounded", get(measure.Round(low, rule)), low)
			if n := get(measure.Div(low, step)); get(measure.Floor(n)) != n {
				t.Errorf("%s is not a multiple of %s", low, step)
			}
			within(t, "RoundSpan", must[api.Span](t)(measure.RoundSpan(s, rule)), []api.Rat{low, high})
			distance := toBig(t, get(measure.Sub(s.Low, low)))
			if distance.Abs(distance).Cmp(toBig(t, step)) >= 0 {
				t.Errorf("%s %s: %s becomes %s", kind, step, s.Low, low)
			}
		}
	}
}

func TestWhatIsApportionedAddsUp(t *testing.T) {
	r := rand.New(rand.NewSource(10))
	for range 500 {
		weights, sum := make([]int, 1+r.Intn(20)), 0
		for i := range weights {
			weights[i] = r.Intn(1000)
			sum += weights[i]
		}
		if sum == 0 {
			continue
		}
		total, all := r.Intn(1000000), 0
		for i, part := range must[[]int](t)(measure.Apportion(total, weights)) {
			all += part
			if off := part*sum - total*weights[i]; off >= sum || off <= -sum {
				t.Errorf("Apportion of %d with %v: part %d is %d", total, weights, i, part)
			}
		}
		expect(t, "the sum of the parts", all, total)
	}
}

func TestMixturesKeepTheMassOfEachLot(t *testing.T) {
	r := rand.New(rand.NewSource(11))
	for range 200 {
		l := make([]api.Layer, 1+r.Intn(6))
		for i := range l {
			l[i] = randomLayer(r)
		}
		mixed := must[api.Layer](t)(measure.Mix(l))
		want := massesByLot(t, l)
		got := massesByLot(t, []api.Layer{mixed})
		expect(t, "the number of lots", len(got), len(want))
		for lot, mass := range want {
			expect(t, "the mass of the lot "+lot, got[lot].RatString(), mass.RatString())
		}
		expect(t, "CheckLayer of the mixture", measure.CheckLayer(mixed), api.OK)
	}
}

// randomLayer returns a layer of some of the lots from a to f.
func randomLayer(r *rand.Rand) api.Layer {
	l := api.Layer{Grain: "oats", Mass: 1 + r.Intn(10000)}
	weights, sum := map[string]int{}, 0
	for _, lot := range []string{"a", "b", "c", "d", "e", "f"} {
		if w := r.Intn(4); w > 0 {
			weights[lot] = w
			sum += w
		}
	}
	for _, lot := range []string{"a", "b", "c", "d", "e", "f"} {
		if w := weights[lot]; w > 0 {
			l.Shares = append(l.Shares, api.Share{Lot: lot, Part: api.Rat(big.NewRat(int64(w), int64(sum)).RatString())})
		}
	}
	if sum == 0 {
		l.Shares = alone("z")
	}
	return l
}

// massesByLot returns the mass of each lot in layers.
func massesByLot(t *testing.T, l []api.Layer) map[string]*big.Rat {
	t.Helper()
	masses := map[string]*big.Rat{}
	for _, x := range l {
		for _, s := range x.Shares {
			mass := new(big.Rat).Mul(toBig(t, s.Part), big.NewRat(int64(x.Mass), 1))
			if earlier := masses[s.Lot]; earlier != nil {
				mass.Add(mass, earlier)
			}
			masses[s.Lot] = mass
		}
	}
	return masses
}

func TestMoisturesInStepsAreTheSameAsAtOnce(t *testing.T) {
	r := rand.New(rand.NewSource(12))
	get := must[api.Rat](t)
	for range 500 {
		mass := r.Intn(1000)
		from, between, to := randomMoisture(r), randomMoisture(r), randomMoisture(r)
		at := get(measure.Wet(mass, from, between))
		// Wet takes whole kilograms only: a multiple of the mass, so great that what is between is whole.
		factor := int(toBig(t, at).Denom().Int64())
		if mass*factor > api.MaxMass || get(measure.Wet(mass*factor, from, between)) == "" {
			continue
		}
		whole := must[int](t)(measure.Int(get(measure.Wet(mass*factor, from, between))))
		if whole > api.MaxMass {
			continue
		}
		expect(t, "Wet in two steps", get(measure.Wet(whole, between, to)), get(measure.Wet(mass*factor, from, to)))
		expect(t, "the dry matter", get(measure.Matter(whole, between)), get(measure.Matter(mass*factor, from)))
	}
}

// randomMoisture returns a moisture in tenths of a percent.
func randomMoisture(r *rand.Rand) api.Rat {
	return api.Rat(big.NewRat(r.Int63n(1000), 10).RatString())
}
