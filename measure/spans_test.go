package measure_test

import (
	"math/big"
	"math/rand"
	"slices"
	"testing"

	"bushel/api"
	"bushel/measure"
)

// P1.2: spans.

// badSpans returns spans with their errors.
func badSpans() map[api.Span]api.Errno {
	return map[api.Span]api.Errno{
		{}: api.ErrForm, {Low: "1"}: api.ErrForm, {High: "1"}: api.ErrForm, span("2/4", "x"): api.ErrForm,
		span("x", api.Rat(nines(601))): api.ErrForm, span(api.Rat(nines(601)), "x"): api.ErrLarge, span("1", api.Rat(nines(601))): api.ErrLarge,
		span("2", "1"): api.ErrOrder, span("0", "-1"): api.ErrOrder, span("1/2", "1/3"): api.ErrOrder, span("-1/3", "-1/2"): api.ErrOrder,
		span("5", "2/4"): api.ErrForm,
	}
}

func TestCheckSpan(t *testing.T) {
	for _, s := range []api.Span{span("0", "0"), span("1", "2"), span("-2", "-1"), span("-1/2", "-1/3"), span("1/3", "1/2"), span(api.Rat("-"+nines(600)), api.Rat(nines(600)))} {
		expect(t, "CheckSpan", measure.CheckSpan(s), api.OK)
	}
	for s, want := range badSpans() {
		expect(t, "CheckSpan of "+string(s.Low+" "+s.High), measure.CheckSpan(s), want)
	}
}

func TestErrorsOfSpansInOperations(t *testing.T) {
	good, up := span("1", "2"), api.Rounding{Kind: "up", Step: "1"}
	for bad, want := range badSpans() {
		for name, call := range map[string]func() (api.Span, api.Errno){
			"AddSpans of a": func() (api.Span, api.Errno) { return measure.AddSpans(bad, span("?", "")) },
			"AddSpans of b": func() (api.Span, api.Errno) { return measure.AddSpans(good, bad) },
			"SubSpans of a": func() (api.Span, api.Errno) { return measure.SubSpans(bad, span("?", "")) },
			"SubSpans of b": func() (api.Span, api.Errno) { return measure.SubSpans(good, bad) },
			"MulSpans of a": func() (api.Span, api.Errno) { return measure.MulSpans(bad, span("?", "")) },
			"MulSpans of b": func() (api.Span, api.Errno) { return measure.MulSpans(good, bad) },
			"Hull":          func() (api.Span, api.Errno) { return measure.Hull([]api.Span{good, bad, span("?", "")}) },
			"Meet":          func() (api.Span, api.Errno) { return measure.Meet([]api.Span{span("5", "6"), good, bad}) },
			"Mean":          func() (api.Span, api.Errno) { return measure.Mean([]api.Span{good, bad}, nil) },
			"RoundSpan":     func() (api.Span, api.Errno) { return measure.RoundSpan(bad, api.Rounding{}) },
			"RoundSpan up":  func() (api.Span, api.Errno) { return measure.RoundSpan(bad, up) },
			"Clash": func() (api.Span, api.Errno) {
				i, k, e := measure.Clash([]api.Span{good, span("5", "6"), bad})
				expect(t, "places of Clash", [2]int{i, k}, [2]int{})
				return api.Span{}, e
			},
		} {
			got, e := call()
			expect(t, name, e, want)
			expect(t, name, got, api.Span{})
		}
	}
}

func TestErrorsOfListsOfSpans(t *testing.T) {
	full := slices.Repeat([]api.Span{span("1", "2")}, api.MaxList)
	for name, call := range map[string]func(l []api.Span) (api.Span, api.Errno){
		"Hull": measure.Hull,
		"Meet": measure.Meet,
		"Mean": func(l []api.Span) (api.Span, api.Errno) { return measure.Mean(l, slices.Repeat([]int{1}, len(l))) },
	} {
		got, e := call(full)
		expect(t, name+" of a full list", e, api.OK)
		expect(t, name+" of a full list", got, span("1", "2"))
		for _, row := range []struct {
			l []api.Span
			e api.Errno
		}{{nil, api.ErrShape}, {[]api.Span{}, api.ErrShape}, {append(full, span("1", "2")), api.ErrMany}, {make([]api.Span, 257), api.ErrMany}, {make([]api.Span, 256), api.ErrForm}} {
			got, e := call(row.l)
			expect(t, name, e, row.e)
			expect(t, name, got, api.Span{})
		}
	}
	for want, l := range map[api.Errno][]api.Span{api.ErrNone: full, api.ErrShape: nil, api.ErrMany: append(full, span("3", "4")), api.ErrForm: make([]api.Span, 256)} {
		i, k, e := measure.Clash(l)
		expect(t, "Clash", e, want)
		expect(t, "Clash", [2]int{i, k}, [2]int{})
	}
}

func TestOperationsOnSpans(t *testing.T) {
	a, b := span("1", "2"), span("-1", "3")
	for _, row := range []struct {
		call func(a, b api.Span) (api.Span, api.Errno)
		a, b api.Span
		want api.Span
	}{
		{measure.AddSpans, a, b, span("0", "5")}, {measure.SubSpans, a, b, span("-2", "3")}, {measure.MulSpans, a, b, span("-2", "6")},
		{measure.SubSpans, b, a, span("-3", "2")}, {measure.SubSpans, a, a, span("-1", "1")},
		{measure.MulSpans, span("-3", "-2"), span("-1", "4"), span("-12", "3")}, {measure.MulSpans, span("-3", "-2"), span("-5", "-4"), span("8", "15")},
		{measure.MulSpans, span("-3", "2"), span("-5", "4"), span("-12", "15")}, {measure.MulSpans, span("-3", "2"), span("4", "5"), span("-15", "10")},
		{measure.MulSpans, span("0", "0"), span("-5", "4"), span("0", "0")}, {measure.MulSpans, span("-1/2", "1/2"), span("-1/2", "1/2"), span("-1/4", "1/4")},
	} {
		got, e := row.call(row.a, row.b)
		expect(t, "an operation on spans", e, api.OK)
		expect(t, "an operation on spans", got, row.want)
	}
}

func TestOperationsOnSpansAgainstBig(t *testing.T) {
	r := rand.New(rand.NewSource(2))
	for i := range 600 {
		digits := []int{1, 2, 15, 310, 600}[i%5]
		a, b := randomSpan(t, r, digits), randomSpan(t, r, digits)
		aLow, aHigh, bLow, bHigh := toBig(t, a.Low), toBig(t, a.High), toBig(t, b.Low), toBig(t, b.High)
		var products []*big.Rat
		for _, x := range []*big.Rat{aLow, aHigh} {
			for _, y := range []*big.Rat{bLow, bHigh} {
				products = append(products, new(big.Rat).Mul(x, y))
			}
		}
		slices.SortFunc(products, (*big.Rat).Cmp)
		for _, row := range []struct {
			name      string
			call      func(a, b api.Span) (api.Span, api.Errno)
			low, high *big.Rat
		}{
			{"AddSpans", measure.AddSpans, new(big.Rat).Add(aLow, bLow), new(big.Rat).Add(aHigh, bHigh)},
			{"SubSpans", measure.SubSpans, new(big.Rat).Sub(aLow, bHigh), new(big.Rat).Sub(aHigh, bLow)},
			{"MulSpans", measure.MulSpans, products[0], products[3]},
		} {
			want, wantError := spanOfBig(row.low, row.high)
			got, e := row.call(a, b)
			expect(t, row.name, e, wantError)
			expect(t, row.name, got, want)
		}
	}
}

func TestSpansOfLongNumbers(t *testing.T) {
	most := api.Rat(nines(600))
	for name, call := range map[string]func() (api.Span, api.Errno){
		"AddSpans, High": func() (api.Span, api.Errno) { return measure.AddSpans(span("0", most), span("0", "1")) },
		"AddSpans, Low":  func() (api.Span, api.Errno) { return measure.AddSpans(span("-"+most, "0"), span("-1", "0")) },
		"SubSpans, High": func() (api.Span, api.Errno) { return measure.SubSpans(span("0", most), span("-1", "0")) },
		"MulSpans, Low":  func() (api.Span, api.Errno) { return measure.MulSpans(span("0", most), span("-2", "0")) },
		"MulSpans, High": func() (api.Span, api.Errno) { return measure.MulSpans(span("0", most), span("1/7", "2")) },
		"RoundSpan, Low": func() (api.Span, api.Errno) {
			return measure.RoundSpan(span("-"+most, "0"), api.Rounding{Kind: "down", Step: "2"})
		},
		"RoundSpan, High": func() (api.Span, api.Errno) {
			return measure.RoundSpan(span("0", most), api.Rounding{Kind: "up", Step: "2"})
		},
		"Mean": func() (api.Span, api.Errno) {
			return measure.Mean([]api.Span{span("0", "0"), span("0", "1/"+most)}, []int{1, 1})
		},
	} {
		got, e := call()
		expect(t, name, e, api.ErrLarge)
		expect(t, name, got, api.Span{})
	}
	got, e := measure.Mean([]api.Span{span("-"+most, most), span("-"+most, most)}, []int{999999999, 999999999})
	expect(t, "Mean of long numbers", e, api.OK)
	expect(t, "Mean of long numbers", got, span("-"+most, most))
}

func TestHullAndMeet(t *testing.T) {
	for _, row := range []struct {
		l    []api.Span
		hull api.Span
		meet api.Span
		e    api.Errno
	}{
		{[]api.Span{span("0", "2"), span("1", "4"), span("3", "5")}, span("0", "5"), api.Span{}, api.ErrConflict},
		{[]api.Span{span("1", "4"), span("3", "5")}, span("1", "5"), span("3", "4"), api.OK},
		{[]api.Span{span("3", "5"), span("1", "4")}, span("1", "5"), span("3", "4"), api.OK},
		{[]api.Span{span("1/3", "1/2")}, span("1/3", "1/2"), span("1/3", "1/2"), api.OK},
		{[]api.Span{span("0", "9"), span("2", "3"), span("1", "8")}, span("0", "9"), span("2", "3"), api.OK},
		{[]api.Span{span("0", "1"), span("1", "2")}, span("0", "2"), span("1", "1"), api.OK},
		{[]api.Span{span("5", "6"), span("-6", "-5")}, span("-6", "6"), api.Span{}, api.ErrConflict},
		{[]api.Span{span("0", "1/3"), span("333/1000", "1")}, span("0", "1"), span("333/1000", "1/3"), api.OK},
		{[]api.Span{span("0", "1/3"), span("167/500", "1")}, span("0", "1"), api.Span{}, api.ErrConflict},
	} {
		hull, e := measure.Hull(row.l)
		expect(t, "Hull", hull, row.hull)
		expect(t, "Hull", e, api.OK)
		meet, e := measure.Meet(row.l)
		expect(t, "Meet", meet, row.meet)
		expect(t, "Meet", e, row.e)
	}
}

func TestClash(t *testing.T) {
	for _, row := range []struct {
		l    []api.Span
		i, k int
		e    api.Errno
	}{
		{[]api.Span{span("0", "2"), span("1", "4"), span("3", "5")}, 0, 2, api.OK},
		{[]api.Span{span("1", "4"), span("3", "5")}, 0, 0, api.ErrNone},
		{[]api.Span{span("1", "1")}, 0, 0, api.ErrNone},
		{[]api.Span{span("0", "1"), span("1", "2")}, 0, 0, api.ErrNone},
		{[]api.Span{span("0", "1"), span("2", "3")}, 0, 1, api.OK},
		{[]api.Span{span("2", "3"), span("0", "1")}, 0, 1, api.OK},
		{[]api.Span{span("0", "9"), span("5", "6"), span("1", "2"), span("8", "9")}, 1, 2, api.OK},
		{[]api.Span{span("0", "9"), span("0", "9"), span("8", "9"), span("1", "2")}, 2, 3, api.OK},
		{[]api.Span{span("0", "5"), span("6", "7"), span("8", "9"), span("10", "11")}, 0, 1, api.OK},
		{[]api.Span{span("0", "5"), span("1", "7"), span("5", "9"), span("6", "6"), span("7", "8")}, 0, 3, api.OK},
	} {
		i, k, e := measure.Clash(row.l)
		expect(t, "Clash", e, row.e)
		expect(t, "Clash", [2]int{i, k}, [2]int{row.i, row.k})
	}
}

func TestMean(t *testing.T) {
	l := []api.Span{span("10", "11"), span("13", "15")}
	for _, row := range []struct {
		weights []int
		want    api.Span
		e       api.Errno
	}{
		{[]int{2, 1}, span("11", "37/3"), api.OK}, {[]int{1, 1}, span("23/2", "13"), api.OK}, {[]int{0, 7}, span("13", "15"), api.OK}, {[]int{1, 0}, span("10", "11"), api.OK},
		{[]int{999999999, 999999999}, span("23/2", "13"), api.OK}, {[]int{999999999, 0}, span("10", "11"), api.OK},
		{nil, api.Span{}, api.ErrShape}, {[]int{1}, api.Span{}, api.ErrShape}, {[]int{-1, 1, 1}, api.Span{}, api.ErrShape},
		{[]int{-1, 1}, api.Span{}, api.ErrRange}, {[]int{1, 1000000000}, api.Span{}, api.ErrRange}, {[]int{0, -1}, api.Span{}, api.ErrRange}, {[]int{-1 << 63, -1 << 63}, api.Span{}, api.ErrRange},
		{[]int{0, 0}, api.Span{}, api.ErrZero},
	} {
		got, e := measure.Mean(l, row.weights)
		expect(t, "Mean", e, row.e)
		expect(t, "Mean", got, row.want)
	}
}

func TestMeanHasNoLimitOnTheWay(t *testing.T) {
	// The sum of the first half has a denominator of tens of thousands of digits; in the second mean the other half takes it back.
	r := rand.New(rand.NewSource(3))
	var l []api.Span
	var weights []int
	for range api.MaxList / 2 {
		a := api.Rat(new(big.Rat).SetFrac(big.NewInt(1), new(big.Int).Add(randomLong(r), big.NewInt(1))).RatString())
		l = append(l, span("-"+a, a))
		weights = append(weights, 3)
	}
	for _, s := range slices.Clone(l) {
		l = append(l, s)
		weights = append(weights, 3)
	}
	_, e := measure.Mean(l, weights)
	expect(t, "Mean of many numbers", e, api.ErrLarge)
	for i := range api.MaxList / 2 {
		l[api.MaxList/2+i] = span("-"+l[i].High, "-"+l[i].High)
		l[i] = span(l[i].High, l[i].High)
	}
	got, e := measure.Mean(l, weights)
	expect(t, "Mean of numbers and their opposites", e, api.OK)
	expect(t, "Mean of numbers and their opposites", got, span("0", "0"))
}

// randomLong returns a number of 599 digits.
func randomLong(r *rand.Rand) *big.Int {
	least, _ := new(big.Int).SetString(power(598), 10)
	return least.Add(least, new(big.Int).Rand(r, least))
}

func TestRoundSpan(t *testing.T) {
	s := span("1/3", "2/3")
	for kind, want := range map[string]api.Span{"down": span("3/10", "3/5"), "up": span("2/5", "7/10"), "half-up": span("3/10", "7/10"), "half-even": span("3/10", "7/10")} {
		got, e := measure.RoundSpan(s, api.Rounding{Kind: kind, Step: "1/10"})
		expect(t, "RoundSpan "+kind, e, api.OK)
		expect(t, "RoundSpan "+kind, got, want)
	}
	got, _ := measure.RoundSpan(span("5/8", "7/8"), api.Rounding{Kind: "half-even", Step: "1/4"})
	expect(t, "RoundSpan to even multiples", got, span("1/2", "1"))
}
