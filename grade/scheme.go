package grade

import (
	"iter"
	"slices"

	"bushel/api"
	"bushel/exact"
	"bushel/measure"
	"bushel/numbers"
)

// scheme is a scheme that has been read: for each grade the limits of each factor.
// No grade is the last one of them and has no limits, so that all values have one of these grades.
type scheme struct {
	grades [][]limits[exact.Number]
}

// condition is that the limits of a factor hold for a grade.
type condition struct {
	grade  int
	factor int
	limits limits[exact.Number]
}

// conditions visits the conditions of all grades, of the best grade first, and of a grade in the order of the factors.
func (s scheme) conditions() iter.Seq[condition] {
	return func(yield func(condition) bool) {
		for grade, l := range s.grades {
			for factor, x := range l {
				if !yield(condition{grade, factor, x}) {
					return
				}
			}
		}
	}
}

// noGrade returns the number that stands for no grade.
func (s scheme) noGrade() int { return len(s.grades) - 1 }

// isGrade reports whether a number is that of a grade.
func (s scheme) isGrade(grade int) bool { return grade >= 0 && grade < s.noGrade() }

// factors returns the number of factors.
func (s scheme) factors() int { return len(s.grades[0]) }

// isFactor reports whether a number is that of a factor.
func (s scheme) isFactor(factor int) bool { return factor >= 0 && factor < s.factors() }

// gradeOf returns the grade of values.
func (s scheme) gradeOf(values []exact.Number) int {
	grade := 0
	// The first condition of a grade that fails leads to the next grade; the further ones of this grade are passed over.
	for c := range s.conditions() {
		if c.grade == grade && !hold(c.limits, values[c.factor]) {
			grade++
		}
	}
	return grade
}

// gradeOfFactor returns the grade of one factor for a value.
func (s scheme) gradeOfFactor(factor int, value exact.Number) int {
	grade := 0
	for c := range s.conditions() {
		if c.factor == factor && c.grade == grade && !hold(c.limits, value) {
			grade++
		}
	}
	return grade
}

// failing visits the factors whose limits do not hold for a grade.
func (s scheme) failing(grade int, values []exact.Number) iter.Seq[int] {
	return func(yield func(int) bool) {
		for c := range s.conditions() {
			if c.grade == grade && !hold(c.limits, values[c.factor]) && !yield(c.factor) {
				return
			}
		}
	}
}

// CheckScheme returns the first error of a scheme, or OK.
func CheckScheme(s api.Scheme) api.Errno {
	_, e := readScheme(s)
	return e
}

// readScheme returns a scheme, or its first error.
func readScheme(s api.Scheme) (scheme, api.Errno) {
	if e := checkFactors(s.Factors); e != api.OK {
		return scheme{}, e
	}
	if len(s.Grades) == 0 {
		return scheme{}, api.ErrShape
	}
	if len(s.Grades) > api.MaxGrades {
		return scheme{}, api.ErrMany
	}
	var names []string
	var before []limits[exact.Number]
	var grades [][]limits[exact.Number]
	for _, g := range s.Grades {
		if e := checkGrade(g, names, len(s.Factors)); e != api.OK {
			return scheme{}, e
		}
		l, e := readLimitsOfGrade(g, before)
		if e != api.OK {
			return scheme{}, e
		}
		names, before, grades = append(names, g.Name), l, append(grades, l)
	}
	unlimited := make([]limits[exact.Number], len(s.Factors))
	return scheme{append(grades, unlimited)}, api.OK
}

// checkFactors returns the first error of the factors of a scheme, or OK.
func checkFactors(l []api.Factor) api.Errno {
	if len(l) == 0 {
		return api.ErrShape
	}
	if len(l) > api.MaxFactors {
		return api.ErrMany
	}
	var names []string
	for _, f := range l {
		if e := CheckFactor(f); e != api.OK {
			return e
		}
		if slices.Contains(names, f.Name) {
			return api.ErrTwice
		}
		names = append(names, f.Name)
	}
	return api.OK
}

// checkGrade returns the first error of a grade behind others with these names, beside those of its limits, or OK.
func checkGrade(g api.Grade, names []string, factors int) api.Errno {
	switch {
	case !measure.IsName(g.Name):
		return api.ErrName
	case slices.Contains(names, g.Name):
		return api.ErrTwice
	case len(g.Least) != factors || len(g.Most) != factors:
		return api.ErrShape
	}
	return api.OK
}

// readLimitsOfGrade returns the limits of a grade, or their first error; before are those of the grade before, if there is one.
func readLimitsOfGrade(g api.Grade, before []limits[exact.Number]) ([]limits[exact.Number], api.Errno) {
	var result []limits[exact.Number]
	for f := range g.Least {
		l, e := readLimits(g.Least[f], g.Most[f])
		if e != api.OK {
			return nil, e
		}
		if len(before) > 0 && !contain(l, before[f]) {
			return nil, api.ErrOrder
		}
		result = append(result, l)
	}
	return result, api.OK
}

// readLimits returns the limits of a factor, or their first error.
func readLimits(least, most api.Rat) (limits[exact.Number], api.Errno) {
	l, e := numbers.Each([]api.Rat{least, most}, readLimit)
	if e != api.OK {
		return limits[exact.Number]{}, e
	}
	result := limits[exact.Number]{l[0], l[1]}
	if areEmpty(result) {
		return limits[exact.Number]{}, api.ErrRange
	}
	return result, api.OK
}

// readLimit returns a limit, which an empty text says there is none of, or its first error.
func readLimit(a api.Rat) (limit[exact.Number], api.Errno) {
	if a == "" {
		return limit[exact.Number]{}, api.OK
	}
	n, e := numbers.Read(a)
	return limit[exact.Number]{n, e == api.OK}, e
}
