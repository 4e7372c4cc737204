package grade_test

import (
	"fmt"
	"math"
	"math/rand"
	"slices"
	"testing"

	"bushel/api"
	"bushel/grade"
)

// P2.5: intervals.

func TestPossibleOfTheExample(t *testing.T) {
	s := example()
	for _, row := range []struct {
		spans []api.Span
		want  []int
		sure  api.Errno
	}{
		{[]api.Span{span("64/5", "68/5"), span("77", "80")}, []int{0, 1}, api.ErrConflict},
		{[]api.Span{span("66/5", "68/5"), span("77", "80")}, []int{1}, api.OK},
		{[]api.Span{span("66/5", "68/5"), span("80", "90")}, []int{1}, api.OK},
		{[]api.Span{span("15", "17"), span("77", "80")}, []int{2, 3}, api.ErrConflict},
		{[]api.Span{span("16", "17"), span("77", "80")}, []int{2, 3}, api.ErrConflict},
		{[]api.Span{span("13", "13"), span("78", "78")}, []int{0}, api.OK},
		{[]api.Span{span("10", "13"), span("78", "80")}, []int{0}, api.OK},
		{[]api.Span{span("12", "13"), span("75", "78")}, []int{0, 1}, api.ErrConflict},
		{[]api.Span{span("12", "15"), span("0", "100")}, []int{0, 1, 2}, api.ErrConflict},
		{[]api.Span{span("0", "100"), span("0", "100")}, []int{0, 1, 2, 3}, api.ErrConflict},
		{[]api.Span{span("12", "20"), span("0", "1")}, []int{2, 3}, api.ErrConflict},
		{[]api.Span{span("12", "12"), span("0", "1")}, []int{2}, api.OK},
		{[]api.Span{span("17", "18"), span("0", "100")}, []int{3}, api.ErrNone},
		{[]api.Span{span("1601/100", "17"), span("80", "81")}, []int{3}, api.ErrNone},
		{[]api.Span{span("14", "17"), span("70", "80")}, []int{1, 2, 3}, api.ErrConflict},
	} {
		what := fmt.Sprint(row.spans)
		l, e := grade.Possible(s, row.spans)
		expect(t, "Possible of "+what, e, api.OK)
		expectList(t, "Possible of "+what, l, row.want)
		g, e := grade.Sure(s, row.spans)
		expect(t, "Sure of "+what, e, row.sure)
		if row.sure != api.OK {
			expect(t, "Sure of "+what, g, 0)
		} else {
			expect(t, "Sure of "+what, g, row.want[0])
		}
	}
}

// The values between the limits of two grades are an interval without its end: a witness is there, although no limit is one.
func TestPossibleBetweenLimits(t *testing.T) {
	s := api.Scheme{Factors: factors(1), Grades: unlimited(3, 1)}
	for i, l := range [][2]api.Rat{{"5", "5"}, {"4", "5"}, {"4", "9"}} {
		s.Grades[i].Least[0], s.Grades[i].Most[0] = l[0], l[1]
	}
	for _, row := range []struct {
		s    api.Span
		want []int
	}{
		{span("4", "5"), []int{0, 1}}, {span("9/2", "5"), []int{0, 1}}, {span("5", "9"), []int{0, 2}}, {span("4999/1000", "5001/1000"), []int{0, 1, 2}},
		{span("3", "5"), []int{0, 1, 3}}, {span("3", "7/2"), []int{3}}, {span("3", "4"), []int{1, 3}}, {span("9", "10"), []int{2, 3}}, {span("6", "7"), []int{2}},
		{span("0", "10"), []int{0, 1, 2, 3}},
	} {
		l, e := grade.Possible(s, []api.Span{row.s})
		expect(t, "Possible", e, api.OK)
		expectList(t, fmt.Sprint("Possible of ", row.s), l, row.want)
	}
}

// checkWitness checks values within spans that are to have a grade.
func checkWitness(t *testing.T, s api.Scheme, spans []api.Span, g int, values []api.Rat) {
	t.Helper()
	what := fmt.Sprint("Witness of ", g, " in ", spans, " of ", s.Grades)
	expect(t, what, len(values), len(spans))
	for f, v := range values {
		expect(t, what, within(spans[f].Low, spans[f].High, v), true)
	}
	expect(t, what, gradeOf(s, values), g)
}

func TestIntervalsAgainstAllValues(t *testing.T) {
	r := rand.New(rand.NewSource(51))
	for range 400 {
		s := randomScheme(r)
		spans := randomSpans(r, s)
		what := fmt.Sprint(spans, " of ", s.Grades)
		found := map[int]bool{}
		everyValues(spans, func(values []api.Rat) { found[gradeOf(s, values)] = true })
		var want []int
		for g := range len(s.Grades) + 1 {
			values, e := grade.Witness(s, spans, g)
			if found[g] {
				want = append(want, g)
				expect(t, "Witness of "+what, e, api.OK)
				checkWitness(t, s, spans, g, values)
			} else {
				expect(t, "Witness of "+what, e, api.ErrNone)
				expectList(t, "Witness of "+what, values, nil)
			}
		}
		l, e := grade.Possible(s, spans)
		expect(t, "Possible of "+what, e, api.OK)
		expectList(t, "Possible of "+what, l, want)
		g, e := grade.Sure(s, spans)
		switch {
		case len(want) > 1:
			expect(t, "Sure of "+what, e, api.ErrConflict)
			expect(t, "Sure of "+what, g, 0)
		default:
			expect(t, "Sure of "+what, withNone(t, s, g, e), want[0])
		}
	}
}

func TestNarrow(t *testing.T) {
	s := changed(func(s *api.Scheme) { s.Grades[0].Least[0] = "10" })
	weights := span("70", "80")
	for _, row := range []struct {
		spans         []api.Span
		grade, factor int
		want          api.Span
	}{
		{[]api.Span{span("64/5", "68/5"), weights}, 0, 0, span("64/5", "13")},
		{[]api.Span{span("64/5", "68/5"), weights}, 1, 0, span("64/5", "68/5")},
		{[]api.Span{span("9", "12"), weights}, 0, 0, span("10", "12")},
		{[]api.Span{span("9", "19"), weights}, 0, 0, span("10", "13")},
		{[]api.Span{span("13", "14"), weights}, 0, 0, span("13", "13")},
		{[]api.Span{span("9", "10"), weights}, 0, 0, span("10", "10")},
		{[]api.Span{span("11", "11"), weights}, 0, 0, span("11", "11")},
		{[]api.Span{span("9", "19/2"), weights}, 0, 0, api.Span{}},
		{[]api.Span{span("1301/100", "14"), weights}, 0, 0, api.Span{}},
		{[]api.Span{span("99", "100"), weights}, 2, 0, api.Span{}},
		{[]api.Span{span("99", "100"), weights}, 0, 1, span("78", "80")},
		{[]api.Span{span("99", "100"), weights}, 2, 1, span("70", "80")},
		{[]api.Span{span("-"+nines(600), nines(600)), weights}, 0, 0, span("10", "13")},
		{[]api.Span{span("-"+nines(600), nines(600)), weights}, 2, 0, span("-"+nines(600), "16")},
	} {
		what := fmt.Sprint("Narrow of ", row.spans[row.factor], " for ", row.grade)
		got, is, e := grade.Narrow(s, row.spans, row.grade, row.factor)
		expect(t, what, e, api.OK)
		expect(t, what, got, row.want)
		expect(t, what, is, row.want != api.Span{})
	}
}

func TestNarrowAgainstDefinition(t *testing.T) {
	r := rand.New(rand.NewSource(52))
	for range 500 {
		s := randomScheme(r)
		spans := randomSpans(r, s)
		g, f := r.Intn(len(s.Grades)), r.Intn(len(s.Factors))
		got, is, e := grade.Narrow(s, spans, g, f)
		expect(t, "Narrow", e, api.OK)
		// The limits and the ends of the spans are among these values, and so are the ends of what they have in common.
		var want []api.Rat
		everyValues(spans[f:f+1], func(values []api.Rat) {
			if within(s.Grades[g].Least[f], s.Grades[g].Most[f], values[0]) {
				want = append(want, values[0])
			}
		})
		expect(t, "Narrow", is, len(want) > 0)
		if len(want) > 0 {
			expect(t, "Narrow", got, span(want[0], want[len(want)-1]))
		} else {
			expect(t, "Narrow", got, api.Span{})
		}
	}
}

func TestErrorsOfSpans(t *testing.T) {
	s := example()
	lists := []struct {
		l    []api.Span
		want api.Errno
	}{
		{nil, api.ErrShape}, {[]api.Span{}, api.ErrShape}, {[]api.Span{span("1", "2")}, api.ErrShape}, {make([]api.Span, 3), api.ErrShape},
		{[]api.Span{span("2", "1"), {}}, api.ErrOrder},
	}
	for bad, want := range badSpans() {
		lists = append(lists, struct {
			l    []api.Span
			want api.Errno
		}{[]api.Span{span("1", "2"), bad}, want})
	}
	for _, row := range lists {
		possible, e := grade.Possible(s, row.l)
		expect(t, "Possible", e, row.want)
		expectList(t, "Possible", possible, nil)
		g, e := grade.Sure(s, row.l)
		expect(t, "Sure", e, row.want)
		expect(t, "Sure", g, 0)
		values, e := grade.Witness(s, row.l, -1)
		expect(t, "Witness", e, row.want)
		expectList(t, "Witness", values, nil)
		left, is, e := grade.Narrow(s, row.l, -1, -1)
		expect(t, "Narrow", e, row.want)
		expect(t, "Narrow", left, api.Span{})
		expect(t, "Narrow", is, false)
	}
}

func TestErrorsOfWitnessAndNarrow(t *testing.T) {
	s, spans := example(), []api.Span{span("12", "13"), span("77", "80")}
	for _, g := range []int{-1, 4, math.MinInt, math.MaxInt} {
		values, e := grade.Witness(s, spans, g)
		expect(t, "Witness", e, api.ErrUnknown)
		expectList(t, "Witness", values, nil)
	}
	for _, row := range [][2]int{{-1, 0}, {3, 0}, {4, 0}, {math.MaxInt, 0}, {math.MinInt, 1}, {0, -1}, {0, 2}, {2, math.MaxInt}, {2, math.MinInt}} {
		left, is, e := grade.Narrow(s, spans, row[0], row[1])
		expect(t, "Narrow", e, api.ErrUnknown)
		expect(t, "Narrow", left, api.Span{})
		expect(t, "Narrow", is, false)
	}
	for g, want := range map[int]api.Errno{0: api.OK, 1: api.OK, 2: api.ErrNone, 3: api.ErrNone} {
		_, e := grade.Witness(s, spans, g)
		expect(t, fmt.Sprint("Witness of ", g), e, want)
	}
}

func TestWitnessOfLongNumbers(t *testing.T) {
	s := changed(func(s *api.Scheme) { s.Grades[0].Least[0] = "1/" + nines(600) })
	spans := []api.Span{span("-"+nines(600), nines(600)), span("0", "1/"+nines(599))}
	for _, g := range []int{2, 3} {
		values, e := grade.Witness(s, spans, g)
		expect(t, "Witness of long numbers", e, api.OK)
		checkWitness(t, s, spans, g, values)
	}
	before := slices.Clone(spans)
	_, _ = grade.Possible(s, spans)
	expect(t, "the argument of Possible", spans, before)
}

func TestFullScheme(t *testing.T) {
	s := api.Scheme{Factors: factors(api.MaxFactors), Grades: unlimited(api.MaxGrades, api.MaxFactors)}
	var spans []api.Span
	for f := range s.Factors {
		for i, g := range s.Grades {
			g.Least[f], g.Most[f] = half(-2*i-f), half(2*i)
		}
		spans = append(spans, span("0", "31/2"))
	}
	var want []int
	for g := range api.MaxGrades + 1 {
		want = append(want, g)
		values, e := grade.Witness(s, spans, g)
		expect(t, "Witness of a full scheme", e, api.OK)
		checkWitness(t, s, spans, g, values)
	}
	l, e := grade.Possible(s, spans)
	expect(t, "Possible of a full scheme", e, api.OK)
	expectList(t, "Possible of a full scheme", l, want)
}
