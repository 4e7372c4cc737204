package measure

import (
	"slices"

	"bushel/api"
	"bushel/exact"
)

// interval is a span that has been read.
type interval struct {
	low  exact.Number
	high exact.Number
}

// readSpan returns a span, or its first error.
func readSpan(s api.Span) (interval, api.Errno) {
	ends, e := readEach([]api.Rat{s.Low, s.High}, read)
	if e != api.OK {
		return interval{}, e
	}
	if ends[0].Compare(ends[1]) > 0 {
		return interval{}, api.ErrOrder
	}
	return interval{ends[0], ends[1]}, api.OK
}

// readSpans returns a list of spans, or its first error.
func readSpans(l []api.Span) ([]interval, api.Errno) {
	if len(l) == 0 {
		return nil, api.ErrShape
	}
	if len(l) > api.MaxList {
		return nil, api.ErrMany
	}
	return readEach(l, readSpan)
}

// writeSpan returns an interval as a result.
func writeSpan(s interval) (api.Span, api.Errno) {
	ends, e := readEach([]exact.Number{s.low, s.high}, write)
	if e != api.OK {
		return api.Span{}, e
	}
	return api.Span{Low: ends[0], High: ends[1]}, api.OK
}

// CheckSpan returns the first error of a span, or OK.
func CheckSpan(s api.Span) api.Errno {
	_, e := readSpan(s)
	return e
}

// plus returns the interval of the sums.
func (a interval) plus(b interval) interval {
	return interval{a.low.Plus(b.low), a.high.Plus(b.high)}
}

// minus returns the interval of the differences.
func (a interval) minus(b interval) interval {
	return interval{a.low.Minus(b.high), a.high.Minus(b.low)}
}

// times returns the interval of the products. Depending on the signs, each product of two ends may be its end.
func (a interval) times(b interval) interval {
	products := []exact.Number{a.low.Times(b.low), a.low.Times(b.high), a.high.Times(b.low), a.high.Times(b.high)}
	return interval{slices.MinFunc(products, exact.Number.Compare), slices.MaxFunc(products, exact.Number.Compare)}
}

// operateSpans returns what an operation makes of two spans.
func operateSpans(a, b api.Span, operation func(a, b interval) interval) (api.Span, api.Errno) {
	l, e := readEach([]api.Span{a, b}, readSpan)
	if e != api.OK {
		return api.Span{}, e
	}
	return writeSpan(operation(l[0], l[1]))
}

// AddSpans returns the span of the sums.
func AddSpans(a, b api.Span) (api.Span, api.Errno) { return operateSpans(a, b, interval.plus) }

// SubSpans returns the span of the differences.
func SubSpans(a, b api.Span) (api.Span, api.Errno) { return operateSpans(a, b, interval.minus) }

// MulSpans returns the span of the products.
func MulSpans(a, b api.Span) (api.Span, api.Errno) { return operateSpans(a, b, interval.times) }

// Hull returns the least span that contains all spans of a list.
func Hull(l []api.Span) (api.Span, api.Errno) {
	spans, e := readSpans(l)
	if e != api.OK {
		return api.Span{}, e
	}
	hull := spans[0]
	for _, s := range spans {
		hull = interval{exact.Lesser(hull.low, s.low), exact.Greater(hull.high, s.high)}
	}
	return writeSpan(hull)
}

// Meet returns the span of the values that all spans of a list have in common.
func Meet(l []api.Span) (api.Span, api.Errno) {
	spans, e := readSpans(l)
	if e != api.OK {
		return api.Span{}, e
	}
	meet := spans[0]
	for _, s := range spans {
		meet = interval{exact.Greater(meet.low, s.low), exact.Lesser(meet.high, s.high)}
	}
	if meet.low.Compare(meet.high) > 0 {
		return api.Span{}, api.ErrConflict
	}
	return writeSpan(meet)
}

// Clash returns the places of the first two spans of a list that have no value in common.
func Clash(l []api.Span) (int, int, api.Errno) {
	spans, e := readSpans(l)
	if e != api.OK {
		return 0, 0, e
	}
	first, second := 0, 0
search:
	for i, a := range spans {
		for k, b := range spans[i+1:] {
			if a.high.Compare(b.low) < 0 || b.high.Compare(a.low) < 0 {
				first, second = i, i+1+k
				break search
			}
		}
	}
	if second == 0 {
		return 0, 0, api.ErrNone
	}
	return first, second, api.OK
}

// Mean returns the span of the means of values with weights.
func Mean(l []api.Span, weights []int) (api.Span, api.Errno) {
	spans, e := readSpans(l)
	if e != api.OK {
		return api.Span{}, e
	}
	if len(weights) != len(spans) {
		return api.Span{}, api.ErrShape
	}
	sum, e := sumOfWeights(weights)
	if e != api.OK {
		return api.Span{}, e
	}
	mean := interval{}
	for i, s := range spans {
		weight := exact.Whole(weights[i])
		mean = mean.plus(interval{s.low.Times(weight), s.high.Times(weight)})
	}
	total := exact.Whole(sum)
	return writeSpan(interval{mean.low.Over(total), mean.high.Over(total)})
}

// RoundSpan returns the span of the rounded values.
func RoundSpan(s api.Span, rule api.Rounding) (api.Span, api.Errno) {
	given, e := readSpan(s)
	if e != api.OK {
		return api.Span{}, e
	}
	r, e := readRule(rule)
	if e != api.OK {
		return api.Span{}, e
	}
	return writeSpan(interval{r.rounded(given.low), r.rounded(given.high)})
}
