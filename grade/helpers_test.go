package grade_test

import (
	"fmt"
	"math/big"
	"math/rand"
	"reflect"
	"slices"
	"strings"
	"testing"

	"bushel/api"
)

// expect reports a result that is not the expected one.
func expect(t *testing.T, what string, got, want any) {
	t.Helper()
	if !reflect.DeepEqual(got, want) {
		t.Errorf("%.200s: got %s, want %s", what, short(got), short(want))
	}
}

// expectList reports a list that is not the expected one; nil and empty lists are equal.
func expectList[T any](t *testing.T, what string, got, want []T) {
	t.Helper()
	if len(got) > 0 || len(want) > 0 {
		expect(t, what, got, want)
	}
}

// short returns the beginning of a value's text: numbers may have hundreds of digits.
func short(value any) string {
	return fmt.Sprintf("%.300s", fmt.Sprint(value))
}

// nines returns the greatest number with so many digits.
func nines(digits int) api.Rat { return api.Rat(strings.Repeat("9", digits)) }

// span returns a span.
func span(low, high api.Rat) api.Span { return api.Span{Low: low, High: high} }

// toBig returns a number of math/big, which is the judge of these tests.
func toBig(a api.Rat) *big.Rat {
	r, ok := new(big.Rat).SetString(string(a))
	if !ok {
		panic("not a number: " + string(a))
	}
	return r
}

// ofBig returns a number as a text.
func ofBig(r *big.Rat) api.Rat { return api.Rat(r.RatString()) }

// half returns half of an integer.
func half(n int) api.Rat { return ofBig(big.NewRat(int64(n), 2)) }

// compare compares two numbers.
func compare(a, b api.Rat) int { return toBig(a).Cmp(toBig(b)) }

// badNumbers are texts that are not numbers, with their errors.
func badNumbers() map[api.Rat]api.Errno {
	return map[api.Rat]api.Errno{
		"": api.ErrForm, "x": api.ErrForm, "-0": api.ErrForm, "01": api.ErrForm, "1.5": api.ErrForm, "2/4": api.ErrForm, "3/1": api.ErrForm,
		"1/0": api.ErrForm, nines(601): api.ErrLarge, "-" + nines(601): api.ErrLarge, "1/" + nines(601): api.ErrLarge,
	}
}

// badSpans are spans with their errors.
func badSpans() map[api.Span]api.Errno {
	return map[api.Span]api.Errno{
		{}: api.ErrForm, span("1", ""): api.ErrForm, span("", "1"): api.ErrForm, span("2", "1"): api.ErrOrder, span("1/2", "1/3"): api.ErrOrder,
		span("0", nines(601)): api.ErrLarge, span("5", "2/4"): api.ErrForm, span(nines(601), "x"): api.ErrLarge,
	}
}

// moisture and weight are the factors of the document's examples.
func moisture() api.Factor {
	return api.Factor{Name: "moisture", Tolerance: "1/5", Rounding: api.Rounding{Kind: "half-up", Step: "1/10"}}
}

func weight() api.Factor {
	return api.Factor{Name: "weight", Tolerance: "1/2", Rounding: api.Rounding{Kind: "half-even", Step: "1/2"}}
}

// example is the scheme of the document's examples.
func example() api.Scheme {
	return api.Scheme{
		Factors: []api.Factor{moisture(), weight()},
		Grades: []api.Grade{
			{Name: "one", Least: []api.Rat{"", "78"}, Most: []api.Rat{"13", ""}},
			{Name: "two", Least: []api.Rat{"", "75"}, Most: []api.Rat{"14", ""}},
			{Name: "three", Least: []api.Rat{"", ""}, Most: []api.Rat{"16", ""}},
		},
	}
}

// factors returns so many factors.
func factors(n int) []api.Factor {
	var l []api.Factor
	for i := range n {
		f := moisture()
		f.Name = fmt.Sprint("f", i)
		l = append(l, f)
	}
	return l
}

// unlimited returns so many grades without limits.
func unlimited(grades, factors int) []api.Grade {
	var l []api.Grade
	for i := range grades {
		l = append(l, api.Grade{Name: fmt.Sprint("g", i), Least: make([]api.Rat, factors), Most: make([]api.Rat, factors)})
	}
	return l
}

// randomScheme returns a scheme whose limits are small integers, so that values often meet them.
func randomScheme(r *rand.Rand) api.Scheme {
	n := 1 + r.Intn(3)
	s := api.Scheme{Factors: factors(n), Grades: unlimited(1+r.Intn(4), n)}
	for f := range n {
		low, high := r.Intn(5), 0
		high = low + r.Intn(3)
		hasLow, hasHigh := r.Intn(3) > 0, r.Intn(3) > 0
		for _, g := range s.Grades {
			if hasLow {
				g.Least[f] = api.Rat(fmt.Sprint(low))
			}
			if hasHigh {
				g.Most[f] = api.Rat(fmt.Sprint(high))
			}
			low, high = low-r.Intn(3), high+r.Intn(3)
			hasLow, hasHigh = hasLow && r.Intn(6) > 0, hasHigh && r.Intn(6) > 0
		}
	}
	return s
}

// randomValues returns values for the factors of a scheme, among them the limits.
func randomValues(r *rand.Rand, s api.Scheme) []api.Rat {
	var l []api.Rat
	for range s.Factors {
		l = append(l, half(r.Intn(24)-6))
	}
	return l
}

// randomSpans returns spans for the factors of a scheme.
func randomSpans(r *rand.Rand, s api.Scheme) []api.Span {
	var l []api.Span
	for range s.Factors {
		low := r.Intn(24) - 6
		l = append(l, span(half(low), half(low+r.Intn(8))))
	}
	return l
}

// within reports whether limits hold, by their definition.
func within(least, most, value api.Rat) bool {
	return (least == "" || compare(value, least) >= 0) && (most == "" || compare(value, most) <= 0)
}

// gradeOf returns the grade of values, by its definition.
func gradeOf(s api.Scheme, values []api.Rat) int {
	return slices.IndexFunc(append(slices.Clone(s.Grades), api.Grade{}), func(g api.Grade) bool {
		for f := range g.Least {
			if !within(g.Least[f], g.Most[f], values[f]) {
				return false
			}
		}
		return true
	})
}

// everyValues visits all lists with one value of each span, where the values are the halves of integers.
// Between limits that are integers, and ends that are halves of integers, these have all grades that any values have.
func everyValues(spans []api.Span, visit func(values []api.Rat)) {
	lists := [][]api.Rat{nil}
	for _, s := range spans {
		var longer [][]api.Rat
		for _, l := range lists {
			for v := toBig(s.Low); v.Cmp(toBig(s.High)) <= 0; v.Add(v, big.NewRat(1, 2)) {
				longer = append(longer, append(slices.Clone(l), ofBig(v)))
			}
		}
		lists = longer
	}
	for _, l := range lists {
		visit(l)
	}
}
