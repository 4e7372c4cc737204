package grade

import (
	"bushel/api"
	"bushel/exact"
	"bushel/numbers"
)

// readSpans returns a scheme and spans, or the first error of a scheme and spans.
func readSpans(s api.Scheme, spans []api.Span) (scheme, []numbers.Interval, api.Errno) {
	r, e := readScheme(s)
	if e != api.OK {
		return scheme{}, nil, e
	}
	l, e := readOfFactors(r, spans, numbers.ReadSpan)
	if e != api.OK {
		return scheme{}, nil, e
	}
	return r, l, api.OK
}

// narrowed returns the values of a span for which limits hold, and whether there are any.
func narrowed(span numbers.Interval, l limits[exact.Number]) (numbers.Interval, bool) {
	if isBelow(l, span.Low) {
		span.Low = l.least.value
	}
	if isAbove(l, span.High) {
		span.High = l.most.value
	}
	return span, span.Low.Compare(span.High) <= 0
}

// witness returns values within spans that have a grade, or no grade, and whether there are any.
func (s scheme) witness(spans []numbers.Interval, grade int) ([]exact.Number, bool) {
	var values []exact.Number
	isWorse := grade == 0
	for f, span := range spans {
		left, exists := narrowed(span, s.grades[grade][f])
		if !exists {
			return nil, false
		}
		value := left.Low
		// One value for which the grade before does not hold is enough, and if there is one, an end is one.
		if !isWorse {
			value, isWorse = s.worse(left, grade-1, f)
		}
		values = append(values, value)
	}
	return values, isWorse
}

// worse returns an end of a span for which the limits of a factor do not hold for a grade, and whether there is one; if there is none, the lower end.
func (s scheme) worse(span numbers.Interval, grade, factor int) (exact.Number, bool) {
	for _, end := range []exact.Number{span.Low, span.High} {
		if !hold(s.grades[grade][factor], end) {
			return end, true
		}
	}
	return span.Low, false
}

// possible returns the grades that are possible for spans.
func (s scheme) possible(spans []numbers.Interval) []int {
	var grades []int
	for grade := range s.grades {
		if _, exists := s.witness(spans, grade); exists {
			grades = append(grades, grade)
		}
	}
	return grades
}

// Possible returns the grades that are possible for spans, and the number of grades if values may have no grade.
func Possible(s api.Scheme, spans []api.Span) ([]int, api.Errno) {
	r, l, e := readSpans(s, spans)
	if e != api.OK {
		return nil, e
	}
	return r.possible(l), api.OK
}

// Sure returns the grade that all values within spans have.
func Sure(s api.Scheme, spans []api.Span) (int, api.Errno) {
	r, l, e := readSpans(s, spans)
	if e != api.OK {
		return 0, e
	}
	grades := r.possible(l)
	if len(grades) > 1 {
		return 0, api.ErrConflict
	}
	return r.someGrade(grades[0])
}

// Witness returns values within spans that have a grade, or no grade.
func Witness(s api.Scheme, spans []api.Span, grade int) ([]api.Rat, api.Errno) {
	r, l, e := readSpans(s, spans)
	if e != api.OK {
		return nil, e
	}
	if !r.isGrade(grade) && grade != r.noGrade() {
		return nil, api.ErrUnknown
	}
	values, exist := r.witness(l, grade)
	if !exist {
		return nil, api.ErrNone
	}
	return numbers.Each(values, numbers.Write)
}

// Narrow returns the values within the span of a factor for which its limits hold for a grade, and whether there are any.
func Narrow(s api.Scheme, spans []api.Span, grade, factor int) (api.Span, bool, api.Errno) {
	r, l, e := readSpans(s, spans)
	if e != api.OK {
		return api.Span{}, false, e
	}
	if !r.isGrade(grade) || !r.isFactor(factor) {
		return api.Span{}, false, api.ErrUnknown
	}
	left, exists := narrowed(l[factor], r.grades[grade][factor])
	if !exists {
		return api.Span{}, false, api.OK
	}
	span, e := numbers.WriteSpan(left)
	return span, e == api.OK, e
}
