package grade_test

import (
	"fmt"
	"math/big"
	"math/rand"
	"slices"
	"testing"

	"bushel/api"
	"bushel/grade"
)

// P2.6: what follows from the other promises.

func TestGapsOfPatternsAreBelowTheDiagonal(t *testing.T) {
	for _, row := range []struct {
		kind string
		n    int
	}{{"line", 1}, {"line", 9}, {"line", 64}, {"zigzag", 1}, {"zigzag", 8}, {"zigzag", 63}, {"grid", 1}, {"grid", 3}, {"grid", 8}, {"quincunx", 5}} {
		for _, side := range [][2]int64{{1, 1}, {1, 100000}, {100000, 1}, {1200, 250}, {99991, 99989}} {
			l, e := grade.Pattern(row.kind, row.n, int(side[0]), int(side[1]))
			expect(t, "Pattern", e, api.OK)
			gap, e := grade.Gap(l, int(side[0]), int(side[1]))
			expect(t, "Gap", e, api.OK)
			if toBig(gap).Cmp(big.NewRat(side[0]*side[0]+side[1]*side[1], 1)) >= 0 || toBig(gap).Sign() <= 0 {
				t.Errorf("Gap of %s %d on %v: %s", row.kind, row.n, side, gap)
			}
		}
	}
}

func TestCompositeLiesBetweenItsParts(t *testing.T) {
	r := rand.New(rand.NewSource(61))
	for range 300 {
		samples, weights := make([][]api.Span, 1+r.Intn(5)), []int(nil)
		var lows, highs []api.Rat
		for i := range samples {
			low := r.Intn(40)
			samples[i] = []api.Span{span(half(low), half(low+r.Intn(9)))}
			weights = append(weights, 1+r.Intn(9))
			lows, highs = append(lows, samples[i][0].Low), append(highs, samples[i][0].High)
		}
		l, e := grade.Composite(samples, weights)
		expect(t, "Composite", e, api.OK)
		expect(t, "Low", within(slices.MinFunc(lows, compare), slices.MaxFunc(lows, compare), l[0].Low), true)
		expect(t, "High", within(slices.MinFunc(highs, compare), slices.MaxFunc(highs, compare), l[0].High), true)
	}
}

func TestValuesWithinTheLimitsHaveNoWorseGrade(t *testing.T) {
	r := rand.New(rand.NewSource(62))
	for range 500 {
		s := randomScheme(r)
		a, b := randomValues(r, s), randomValues(r, s)
		gradeA, e := grade.Grade(s, a)
		if e != api.OK {
			continue
		}
		is, e := grade.Holds(s, gradeA, b)
		expect(t, "Holds", e, api.OK)
		if is {
			gradeB, e := grade.Grade(s, b)
			expect(t, "Grade", e, api.OK)
			expect(t, fmt.Sprint(s.Grades, a, b), gradeB <= gradeA, true)
		}
	}
}

// gradesOfCorners returns the grades that the corners of spans have, in ascending order.
func gradesOfCorners(t *testing.T, s api.Scheme, spans []api.Span) []int {
	t.Helper()
	var grades []int
	for choice := range 1 << len(spans) {
		var corner []api.Rat
		for f, x := range spans {
			corner = append(corner, []api.Rat{x.Low, x.High}[choice>>f&1])
		}
		g, e := grade.Grade(s, corner)
		grades = append(grades, withNone(t, s, g, e))
	}
	slices.Sort(grades)
	return slices.Compact(grades)
}

// narrowed returns the spans that Narrow leaves for a grade, and false if there is an empty one.
func narrowed(t *testing.T, s api.Scheme, spans []api.Span, g int) ([]api.Span, bool) {
	t.Helper()
	if g == len(s.Grades) {
		return spans, true
	}
	var l []api.Span
	for f := range spans {
		left, is, e := grade.Narrow(s, spans, g, f)
		expect(t, "Narrow", e, api.OK)
		if !is {
			return nil, false
		}
		l = append(l, left)
	}
	return l, true
}

func TestGradesOfCorners(t *testing.T) {
	r := rand.New(rand.NewSource(63))
	for range 400 {
		s := randomScheme(r)
		spans := randomSpans(r, s)
		what := fmt.Sprint(spans, " of ", s.Grades)
		possible, e := grade.Possible(s, spans)
		expect(t, "Possible", e, api.OK)
		for _, g := range gradesOfCorners(t, s, spans) {
			expect(t, "the grade of a corner in "+what, slices.Contains(possible, g), true)
		}
		for g := range len(s.Grades) + 1 {
			left, is := narrowed(t, s, spans, g)
			isOfCorner := is && slices.Contains(gradesOfCorners(t, s, left), g)
			expect(t, fmt.Sprint("the grade ", g, " in ", what), slices.Contains(possible, g), isOfCorner)
		}
	}
}

func TestDiscountDoesNotFallIfMoreIsLacking(t *testing.T) {
	r := rand.New(rand.NewSource(64))
	for range 500 {
		s := randomScheme(r)
		g := r.Intn(len(s.Grades))
		a, b := randomValues(r, s), randomValues(r, s)
		lackA, _ := grade.Lack(s, g, a)
		lackB, _ := grade.Lack(s, g, b)
		for f := range a {
			// b is to lack at least as much as a in each factor.
			if compare(lackA[f], lackB[f]) > 0 {
				a[f], b[f] = b[f], a[f]
			}
		}
		var rates []api.Rate
		for f := range a {
			rates = append(rates, api.Rate{Factor: f, Step: half(1 + r.Intn(5)), Price: half(r.Intn(9))})
		}
		less, e := grade.Discount(s, g, a, rates)
		expect(t, "Discount", e, api.OK)
		more, e := grade.Discount(s, g, b, rates)
		expect(t, "Discount", e, api.OK)
		expect(t, fmt.Sprint("discounts ", less, " and ", more), compare(less, more) <= 0, true)
	}
}
