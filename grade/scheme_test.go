package grade_test

import (
	"fmt"
	"math"
	"math/rand"
	"slices"
	"strings"
	"testing"

	"bushel/api"
	"bushel/grade"
)

// P2.3: schemes.

// changed returns the scheme of the examples with a change.
func changed(change func(s *api.Scheme)) api.Scheme {
	s := example()
	change(&s)
	return s
}

// badSchemes are schemes with their errors.
func badSchemes() []struct {
	what string
	s    api.Scheme
	want api.Errno
} {
	type row = struct {
		what string
		s    api.Scheme
		want api.Errno
	}
	limits := func(what string, want api.Errno, change func(g []api.Grade)) row {
		return row{what, changed(func(s *api.Scheme) { change(s.Grades) }), want}
	}
	return []row{
		{"nothing", api.Scheme{}, api.ErrShape},
		{"no factors", api.Scheme{Grades: make([]api.Grade, 99)}, api.ErrShape},
		{"too many factors", api.Scheme{Factors: factors(9), Grades: unlimited(1, 9)}, api.ErrMany},
		{"too many bad factors", api.Scheme{Factors: make([]api.Factor, 9)}, api.ErrMany},
		{"a bad factor", changed(func(s *api.Scheme) { s.Factors[1].Name = "" }), api.ErrName},
		{"a factor twice", changed(func(s *api.Scheme) { s.Factors[1].Name = "moisture" }), api.ErrTwice},
		{"a bad factor twice", changed(func(s *api.Scheme) { s.Factors[1] = api.Factor{Name: "moisture", Tolerance: "-1"} }), api.ErrRange},
		{"a factor twice before a bad one", changed(func(s *api.Scheme) { s.Factors = append(s.Factors, weight(), api.Factor{}) }), api.ErrTwice},
		{"no grades", api.Scheme{Factors: factors(1)}, api.ErrShape},
		{"a bad factor before no grades", api.Scheme{Factors: []api.Factor{{}}}, api.ErrName},
		{"too many grades", api.Scheme{Factors: factors(1), Grades: unlimited(17, 1)}, api.ErrMany},
		{"too many bad grades", api.Scheme{Factors: factors(1), Grades: make([]api.Grade, 17)}, api.ErrMany},
		limits("no name", api.ErrName, func(g []api.Grade) { g[1].Name, g[1].Least = "", nil }),
		limits("a long name", api.ErrName, func(g []api.Grade) { g[2].Name = strings.Repeat("a", 25) }),
		limits("a grade twice", api.ErrTwice, func(g []api.Grade) { g[2].Name, g[2].Least = "one", nil }),
		limits("too few limits", api.ErrShape, func(g []api.Grade) { g[0].Least = []api.Rat{"x"} }),
		limits("too many limits", api.ErrShape, func(g []api.Grade) { g[0].Least = []api.Rat{"", "", ""} }),
		limits("too few upper limits", api.ErrShape, func(g []api.Grade) { g[2].Most = []api.Rat{"x"} }),
		limits("too many upper limits", api.ErrShape, func(g []api.Grade) { g[1].Most = []api.Rat{"", "", ""} }),
		limits("no upper limits", api.ErrShape, func(g []api.Grade) { g[1].Most = nil }),
		limits("Least before Most", api.ErrForm, func(g []api.Grade) { g[0].Least[0], g[0].Most[0] = "x", nines(601) }),
		limits("Most", api.ErrLarge, func(g []api.Grade) { g[0].Most[0], g[0].Least[1] = nines(601), "x" }),
		limits("Least above Most", api.ErrRange, func(g []api.Grade) { g[0].Least[0], g[0].Least[1] = "27/2", "x" }),
		limits("Least above Most of a later grade", api.ErrRange, func(g []api.Grade) { g[1].Least[0] = "15" }),
		limits("Most below that before", api.ErrOrder, func(g []api.Grade) { g[1].Most[0], g[1].Least[1] = "25/2", "x" }),
		limits("Least above that before", api.ErrOrder, func(g []api.Grade) { g[1].Least[1] = "157/2" }),
		limits("Least where there was none", api.ErrOrder, func(g []api.Grade) { g[2].Least[0] = "-" + nines(600) }),
		limits("Most where there was none", api.ErrOrder, func(g []api.Grade) { g[1].Most[1] = nines(600) }),
		limits("Least behind one that has gone", api.ErrOrder, func(g []api.Grade) { g[2].Least[1], g[1].Least[1] = "75", "" }),
		limits("the limits before the name of the next grade", api.ErrOrder, func(g []api.Grade) { g[1].Most[0], g[2].Name = "12", "" }),
		limits("a name before the limits", api.ErrTwice, func(g []api.Grade) { g[1].Most[0], g[1].Name = "12", "one" }),
	}
}

func TestCheckScheme(t *testing.T) {
	full := api.Scheme{Factors: factors(api.MaxFactors), Grades: unlimited(api.MaxGrades, api.MaxFactors)}
	for what, s := range map[string]api.Scheme{
		"the example": example(), "a full scheme": full,
		"equal limits":              changed(func(s *api.Scheme) { s.Grades[1].Most[0], s.Grades[2].Most[0] = "13", "13" }),
		"a single value":            changed(func(s *api.Scheme) { s.Grades[0].Least[0], s.Grades[0].Most[1] = "13", "78" }),
		"a grade named as a factor": changed(func(s *api.Scheme) { s.Grades[0].Name = "moisture" }),
		"a negative Most":           changed(func(s *api.Scheme) { s.Grades[0].Most[0] = "-1" }),
		"long limits":               changed(func(s *api.Scheme) { s.Grades[0].Least[0], s.Grades[0].Most[1] = "1/"+nines(600), nines(600) }),
	} {
		expect(t, what, grade.CheckScheme(s), api.OK)
	}
	for _, row := range badSchemes() {
		expect(t, row.what, grade.CheckScheme(row.s), row.want)
	}
	for bad, want := range badNumbers() {
		if bad != "" {
			expect(t, "Least "+string(bad), grade.CheckScheme(changed(func(s *api.Scheme) { s.Grades[1].Least[1] = bad })), want)
			expect(t, "Most "+string(bad), grade.CheckScheme(changed(func(s *api.Scheme) { s.Grades[2].Most[1] = bad })), want)
		}
	}
	for f, want := range badFactors() {
		expect(t, "a bad factor", grade.CheckScheme(api.Scheme{Factors: []api.Factor{moisture(), f}}), want)
	}
}

func TestCheckSchemeAgainstDefinition(t *testing.T) {
	r := rand.New(rand.NewSource(31))
	texts := []api.Rat{"", "", "1", "2", "3", "5/2"}
	pick := func() api.Rat { return texts[r.Intn(len(texts))] }
	for range 3000 {
		s := api.Scheme{Factors: factors(1), Grades: unlimited(2, 1)}
		for _, g := range s.Grades {
			g.Least[0], g.Most[0] = pick(), pick()
		}
		expect(t, fmt.Sprint(s.Grades), grade.CheckScheme(s), wantedOrder(s.Grades))
	}
}

// wantedOrder returns the error of grades of one factor whose limits are from 1 to 3, by what holds for values.
func wantedOrder(grades []api.Grade) api.Errno {
	for i, g := range grades {
		if g.Least[0] != "" && g.Most[0] != "" && compare(g.Least[0], g.Most[0]) > 0 {
			return api.ErrRange
		}
		for v := -2; i > 0 && v < 20; v++ {
			value, before := half(v), grades[i-1]
			if within(before.Least[0], before.Most[0], value) && !within(g.Least[0], g.Most[0], value) {
				return api.ErrOrder
			}
		}
	}
	return api.OK
}

// schemeFunctions are the functions with a scheme, whose other arguments have errors; each returns whether its results are zero values.
func schemeFunctions(s api.Scheme) map[string]func() (bool, api.Errno) {
	return map[string]func() (bool, api.Errno){
		"Holds":    func() (bool, api.Errno) { x, e := grade.Holds(s, -1, nil); return !x, e },
		"Grade":    func() (bool, api.Errno) { x, e := grade.Grade(s, nil); return x == 0, e },
		"Factor":   func() (bool, api.Errno) { x, e := grade.Factor(s, -1, ""); return x == 0, e },
		"Deciding": func() (bool, api.Errno) { x, e := grade.Deciding(s, nil); return len(x) == 0, e },
		"Lack":     func() (bool, api.Errno) { x, e := grade.Lack(s, -1, nil); return len(x) == 0, e },
		"Discount": func() (bool, api.Errno) {
			x, e := grade.Discount(s, -1, nil, make([]api.Rate, 300))
			return x == "", e
		},
		"Possible": func() (bool, api.Errno) { x, e := grade.Possible(s, nil); return len(x) == 0, e },
		"Sure":     func() (bool, api.Errno) { x, e := grade.Sure(s, nil); return x == 0, e },
		"Witness":  func() (bool, api.Errno) { x, e := grade.Witness(s, nil, -1); return len(x) == 0, e },
		"Narrow": func() (bool, api.Errno) {
			x, is, e := grade.Narrow(s, nil, -1, -1)
			return x == api.Span{} && !is, e
		},
	}
}

func TestErrorsOfSchemesInFunctions(t *testing.T) {
	for _, row := range badSchemes() {
		for name, call := range schemeFunctions(row.s) {
			zero, e := call()
			expect(t, name+", "+row.what, e, row.want)
			expect(t, name+", "+row.what, zero, true)
		}
	}
}

// badValues are lists of values for the scheme of the examples, with their errors.
func badValues() []struct {
	l    []api.Rat
	want api.Errno
} {
	type row = struct {
		l    []api.Rat
		want api.Errno
	}
	rows := []row{{nil, api.ErrShape}, {[]api.Rat{}, api.ErrShape}, {[]api.Rat{"1"}, api.ErrShape}, {[]api.Rat{"x", "1", "1"}, api.ErrShape}, {[]api.Rat{nines(601), "x"}, api.ErrLarge}}
	for bad, want := range badNumbers() {
		rows = append(rows, row{[]api.Rat{bad, "1"}, want}, row{[]api.Rat{"1", bad}, want})
	}
	return rows
}

func TestErrorsOfValues(t *testing.T) {
	s := example()
	for _, row := range badValues() {
		for name, call := range map[string]func() (bool, api.Errno){
			"Holds":    func() (bool, api.Errno) { x, e := grade.Holds(s, 2, row.l); return !x, e },
			"Grade":    func() (bool, api.Errno) { x, e := grade.Grade(s, row.l); return x == 0, e },
			"Deciding": func() (bool, api.Errno) { x, e := grade.Deciding(s, row.l); return len(x) == 0, e },
			"Lack":     func() (bool, api.Errno) { x, e := grade.Lack(s, 0, row.l); return len(x) == 0, e },
			"Discount": func() (bool, api.Errno) {
				x, e := grade.Discount(s, 1, row.l, make([]api.Rate, 300))
				return x == "", e
			},
		} {
			zero, e := call()
			expect(t, name, e, row.want)
			expect(t, name, zero, true)
		}
	}
}

func TestErrorsOfNumbersOfGradesAndFactors(t *testing.T) {
	s := example()
	for _, n := range []int{-1, 3, 4, math.MinInt, math.MaxInt} {
		is, e := grade.Holds(s, n, nil)
		expect(t, "Holds", e, api.ErrUnknown)
		expect(t, "Holds", is, false)
		l, e := grade.Lack(s, n, nil)
		expect(t, "Lack", e, api.ErrUnknown)
		expectList(t, "Lack", l, nil)
		a, e := grade.Discount(s, n, nil, nil)
		expect(t, "Discount", e, api.ErrUnknown)
		expect(t, "Discount", a, api.Rat(""))
	}
	for _, n := range []int{-1, 2, 3, math.MinInt, math.MaxInt} {
		g, e := grade.Factor(s, n, "x")
		expect(t, "Factor", e, api.ErrUnknown)
		expect(t, "Factor", g, 0)
	}
	for bad, want := range badNumbers() {
		g, e := grade.Factor(s, 1, bad)
		expect(t, "Factor", e, want)
		expect(t, "Factor", g, 0)
	}
}

func TestGradesOfTheExample(t *testing.T) {
	s := example()
	for _, row := range []struct {
		values   []api.Rat
		grade    int // 3 for none
		deciding []int
	}{
		{[]api.Rat{"67/5", "79"}, 1, []int{0}},
		{[]api.Rat{"13", "78"}, 0, nil},
		{[]api.Rat{"-1", "100"}, 0, nil},
		{[]api.Rat{"13", "155/2"}, 1, []int{1}},
		{[]api.Rat{"27/2", "76"}, 1, []int{0, 1}},
		{[]api.Rat{"14", "75"}, 1, []int{0, 1}},
		{[]api.Rat{"15", "80"}, 2, []int{0}},
		{[]api.Rat{"10", "1"}, 2, []int{1}},
		{[]api.Rat{"15", "1"}, 2, []int{0, 1}},
		{[]api.Rat{"16", "-1"}, 2, []int{0, 1}},
		{[]api.Rat{"1601/100", "80"}, 3, []int{0}},
		{[]api.Rat{nines(600), "-" + nines(600)}, 3, []int{0}},
	} {
		g, e := grade.Grade(s, row.values)
		if row.grade == 3 {
			expect(t, "Grade", e, api.ErrNone)
			expect(t, "Grade", g, 0)
		} else {
			expect(t, "Grade", e, api.OK)
			expect(t, "Grade", g, row.grade)
		}
		l, e := grade.Deciding(s, row.values)
		expect(t, "Deciding", e, api.OK)
		expectList(t, "Deciding", l, row.deciding)
		for i := range s.Grades {
			is, e := grade.Holds(s, i, row.values)
			expect(t, "Holds", e, api.OK)
			expect(t, "Holds", is, i >= row.grade)
		}
	}
	for factor, want := range []int{1, 0} {
		g, e := grade.Factor(s, factor, []api.Rat{"67/5", "79"}[factor])
		expect(t, "Factor", e, api.OK)
		expect(t, "Factor", g, want)
	}
	g, e := grade.Factor(s, 0, "33/2")
	expect(t, "Factor", e, api.ErrNone)
	expect(t, "Factor", g, 0)
}

// gradeOfFactor returns the grade of one factor for a value, by its definition.
func gradeOfFactor(s api.Scheme, factor int, value api.Rat) int {
	for i, g := range s.Grades {
		if within(g.Least[factor], g.Most[factor], value) {
			return i
		}
	}
	return len(s.Grades)
}

// withNone returns a grade, or the number of grades for ErrNone.
func withNone(t *testing.T, s api.Scheme, g int, e api.Errno) int {
	t.Helper()
	if e == api.ErrNone {
		expect(t, "a grade beside ErrNone", g, 0)
		return len(s.Grades)
	}
	expect(t, "the error of a grade", e, api.OK)
	return g
}

func TestGradesAgainstDefinition(t *testing.T) {
	r := rand.New(rand.NewSource(32))
	for range 1000 {
		s := randomScheme(r)
		values := randomValues(r, s)
		what := fmt.Sprint(s.Grades, values)
		expect(t, what, grade.CheckScheme(s), api.OK)
		want := gradeOf(s, values)
		g, e := grade.Grade(s, values)
		expect(t, "Grade of "+what, withNone(t, s, g, e), want)
		var byFactor, deciding []int
		for f, v := range values {
			g, e := grade.Factor(s, f, v)
			byFactor = append(byFactor, withNone(t, s, g, e))
			expect(t, "Factor of "+what, byFactor[f], gradeOfFactor(s, f, v))
			if want > 0 && !within(s.Grades[want-1].Least[f], s.Grades[want-1].Most[f], v) {
				deciding = append(deciding, f)
			}
		}
		expect(t, "Grade and Factor of "+what, slices.Max(byFactor), want)
		l, e := grade.Deciding(s, values)
		expect(t, "Deciding", e, api.OK)
		expectList(t, "Deciding of "+what, l, deciding)
		for i := range s.Grades {
			is, e := grade.Holds(s, i, values)
			expect(t, "Holds", e, api.OK)
			expect(t, "Holds of "+what, is, i >= want)
		}
	}
}
