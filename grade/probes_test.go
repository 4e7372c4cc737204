package grade_test

import (
	"math"
	"math/big"
	"slices"
	"testing"

	"bushel/api"
	"bushel/grade"
	"bushel/measure"
)

// P2.1: probes.

func TestCount(t *testing.T) {
	for _, row := range []struct{ mass, count int }{
		{1, 5}, {15000, 5}, {15001, 8}, {30000, 8}, {30001, 11}, {45000, 11}, {45001, 14}, {60000, 14}, {60001, 17},
		{300000, 62}, {300001, 64}, {315001, 64}, {api.MaxMass, 64},
	} {
		n, e := grade.Count(row.mass)
		expect(t, "Count", e, api.OK)
		expect(t, "Count", n, row.count)
	}
	for _, mass := range []int{0, -1, api.MaxMass + 1, math.MaxInt, math.MinInt} {
		n, e := grade.Count(mass)
		expect(t, "Count", e, api.ErrRange)
		expect(t, "Count", n, 0)
	}
}

func TestCountGrowsByThree(t *testing.T) {
	before := 5
	for mass := 1; mass < 400000; mass += 15000 {
		least, _ := grade.Count(mass)
		most, _ := grade.Count(mass + 14999)
		expect(t, "Count", [2]int{least, most}, [2]int{before, before})
		before = min(before+3, api.MaxPoints)
	}
}

// coordinates returns probes without their weights.
func coordinates(l []api.Probe) [][2]api.Rat {
	var result [][2]api.Rat
	for _, p := range l {
		result = append(result, [2]api.Rat{p.X, p.Y})
	}
	return result
}

func TestPattern(t *testing.T) {
	for _, row := range []struct {
		kind             string
		n, length, width int
		want             [][2]api.Rat
	}{
		{"quincunx", 5, 400, 200, [][2]api.Rat{{"100", "50"}, {"100", "150"}, {"200", "100"}, {"300", "50"}, {"300", "150"}}},
		{"quincunx", 5, 1, 3, [][2]api.Rat{{"1/4", "3/4"}, {"1/4", "9/4"}, {"1/2", "3/2"}, {"3/4", "3/4"}, {"3/4", "9/4"}}},
		{"line", 1, 5, 3, [][2]api.Rat{{"5/2", "3/2"}}},
		{"line", 3, 600, 200, [][2]api.Rat{{"100", "100"}, {"300", "100"}, {"500", "100"}}},
		{"zigzag", 1, 1, 1, [][2]api.Rat{{"1/2", "1/3"}}},
		{"zigzag", 4, 800, 300, [][2]api.Rat{{"100", "100"}, {"300", "200"}, {"500", "100"}, {"700", "200"}}},
		{"grid", 1, 7, 4, [][2]api.Rat{{"7/2", "2"}}},
		{"grid", 2, 400, 100, [][2]api.Rat{{"100", "25"}, {"100", "75"}, {"300", "25"}, {"300", "75"}}},
	} {
		l, e := grade.Pattern(row.kind, row.n, row.length, row.width)
		expect(t, row.kind, e, api.OK)
		expect(t, row.kind, coordinates(l), row.want)
	}
}

// wantedPattern returns the points of a pattern by its definition, in any order.
func wantedPattern(kind string, n, length, width int) [][2]api.Rat {
	part := func(side, top, bottom int) api.Rat { return ofBig(big.NewRat(int64(side)*int64(top), int64(bottom))) }
	var l [][2]api.Rat
	for i := range n {
		x := part(length, 2*i+1, 2*n)
		switch kind {
		case "line":
			l = append(l, [2]api.Rat{x, part(width, 1, 2)})
		case "zigzag":
			l = append(l, [2]api.Rat{x, part(width, 1+i%2, 3)})
		case "grid":
			for k := range n {
				l = append(l, [2]api.Rat{x, part(width, 2*k+1, 2*n)})
			}
		}
	}
	if kind == "quincunx" {
		l = append(l, [2]api.Rat{part(length, 1, 2), part(width, 1, 2)})
		for _, q := range [][2]int{{1, 1}, {3, 1}, {1, 3}, {3, 3}} {
			l = append(l, [2]api.Rat{part(length, q[0], 4), part(width, q[1], 4)})
		}
	}
	slices.SortFunc(l, func(a, b [2]api.Rat) int {
		if c := compare(a[0], b[0]); c != 0 {
			return c
		}
		return compare(a[1], b[1])
	})
	return l
}

func TestPatternsOfAllSizes(t *testing.T) {
	for kind, most := range map[string]int{"line": 64, "zigzag": 64, "grid": 8, "quincunx": 5} {
		least := 1
		if kind == "quincunx" {
			least = 5
		}
		for n := least; n <= most; n++ {
			for _, side := range [][2]int{{1, 1}, {100000, 100000}, {997, 30030}, {1, 100000}} {
				l, e := grade.Pattern(kind, n, side[0], side[1])
				expect(t, kind, e, api.OK)
				expect(t, kind, coordinates(l), wantedPattern(kind, n, side[0], side[1]))
				expect(t, kind+", CheckProbes", grade.CheckProbes(l, side[0], side[1]), api.OK)
				expect(t, kind+", weights", slices.ContainsFunc(l, func(p api.Probe) bool { return p.Weight != 1 }), false)
			}
		}
	}
}

func TestErrorsOfPattern(t *testing.T) {
	for _, row := range []struct {
		kind             string
		n, length, width int
		want             api.Errno
	}{
		{"", 1, 1, 1, api.ErrKind}, {"Line", 1, 1, 1, api.ErrKind}, {"circle", 0, 0, 0, api.ErrKind}, {"line ", 1, 1, 1, api.ErrKind},
		{"line", 0, 1, 1, api.ErrRange}, {"line", 65, 1, 1, api.ErrRange}, {"line", -1, 1, 1, api.ErrRange}, {"line", math.MaxInt, 1, 1, api.ErrRange},
		{"zigzag", 0, 1, 1, api.ErrRange}, {"zigzag", 65, 1, 1, api.ErrRange}, {"zigzag", math.MinInt, 1, 1, api.ErrRange},
		{"grid", 0, 1, 1, api.ErrRange}, {"grid", 9, 1, 1, api.ErrRange},
		{"quincunx", 4, 1, 1, api.ErrRange}, {"quincunx", 6, 1, 1, api.ErrRange}, {"quincunx", 1, 1, 1, api.ErrRange}, {"quincunx", 0, 1, 1, api.ErrRange},
		{"line", 1, 0, 1, api.ErrRange}, {"line", 1, 1, 0, api.ErrRange}, {"line", 1, 100001, 1, api.ErrRange}, {"line", 1, 1, 100001, api.ErrRange},
		{"grid", 1, -1, 1, api.ErrRange}, {"quincunx", 5, 1, math.MinInt, api.ErrRange}, {"zigzag", 1, math.MaxInt, 1, api.ErrRange},
	} {
		l, e := grade.Pattern(row.kind, row.n, row.length, row.width)
		expect(t, "Pattern of "+row.kind, e, row.want)
		expectList(t, "Pattern of "+row.kind, l, nil)
	}
}

func TestResultsOfPatternShareNoMemory(t *testing.T) {
	first, _ := grade.Pattern("quincunx", 5, 400, 200)
	first[0].X = "7"
	second, _ := grade.Pattern("quincunx", 5, 400, 200)
	expect(t, "Pattern behind a change of another one", second[0].X, api.Rat("100"))
}

// probe returns a probe with the weight 1.
func probe(x, y api.Rat) api.Probe { return api.Probe{X: x, Y: y, Weight: 1} }

func TestCheckProbes(t *testing.T) {
	full, _ := grade.Pattern("grid", 8, 400, 200)
	tooMany := append(slices.Clone(full), api.Probe{})
	for _, row := range []struct {
		what          string
		l             []api.Probe
		length, width int
		want          api.Errno
	}{
		{"corners", []api.Probe{probe("0", "0"), probe("0", "200"), probe("400", "200"), probe("400", "0")}, 400, 200, api.OK},
		{"a full list", full, 400, 200, api.OK},
		{"weights", []api.Probe{{X: "0", Y: "1/3", Weight: 1}, {X: "0", Y: "1/2", Weight: api.MaxNumber}}, 1, 1, api.OK},
		{"no length", nil, 0, 1, api.ErrRange}, {"no width", nil, 1, 0, api.ErrRange}, {"a great length", tooMany, 100001, 1, api.ErrRange},
		{"a great width", tooMany, 1, 100001, api.ErrRange}, {"a negative length", full, math.MinInt, 1, api.ErrRange}, {"the greatest width", full, 1, math.MaxInt, api.ErrRange},
		{"no probes", nil, 1, 1, api.ErrShape}, {"an empty list", []api.Probe{}, 1, 1, api.ErrShape},
		{"too many", tooMany, 400, 200, api.ErrMany}, {"too many bad ones", make([]api.Probe, 65), 400, 200, api.ErrMany},
		{"left of it", []api.Probe{probe("-1/2", "0")}, 1, 1, api.ErrRange}, {"below it", []api.Probe{probe("0", "-1")}, 1, 1, api.ErrRange},
		{"right of it", []api.Probe{probe("3/2", "1")}, 1, 2, api.ErrRange}, {"above it", []api.Probe{probe("1", "3/2")}, 2, 1, api.ErrRange},
		{"the weight 0", []api.Probe{{X: "0", Y: "0"}}, 1, 1, api.ErrRange}, {"a negative weight", []api.Probe{{X: "0", Y: "0", Weight: -1}}, 1, 1, api.ErrRange},
		{"a great weight", []api.Probe{{X: "0", Y: "0", Weight: api.MaxNumber + 1}}, 1, 1, api.ErrRange},
		{"twice", []api.Probe{probe("1/2", "1"), probe("1", "1/2"), probe("1/2", "1")}, 1, 1, api.ErrTwice},
		{"twice with another weight", []api.Probe{probe("0", "0"), {X: "0", Y: "0", Weight: 2}}, 1, 1, api.ErrTwice},
		{"twice with a bad weight", []api.Probe{probe("0", "0"), {X: "0", Y: "0"}}, 1, 1, api.ErrRange},
		{"the first error", []api.Probe{probe("0", "0"), probe("0", "0"), probe("x", "0")}, 1, 1, api.ErrTwice},
		{"the first error of two", []api.Probe{probe("2", "0"), probe("x", "0")}, 1, 1, api.ErrRange},
		{"X before Y", []api.Probe{probe(nines(601), "x")}, 1, 1, api.ErrLarge}, {"Y before the place", []api.Probe{probe("2", "x")}, 1, 1, api.ErrForm},
	} {
		expect(t, row.what, grade.CheckProbes(row.l, row.length, row.width), row.want)
		gap, e := grade.Gap(row.l, row.length, row.width)
		expect(t, "Gap of "+row.what, e, row.want)
		expect(t, "Gap of "+row.what, gap != "", row.want == api.OK)
	}
	for bad, want := range badNumbers() {
		expect(t, "CheckProbes of X", grade.CheckProbes([]api.Probe{{X: bad}}, 1, 1), want)
		expect(t, "CheckProbes of Y", grade.CheckProbes([]api.Probe{probe("0", "0"), {X: "0", Y: bad}}, 1, 1), want)
		expect(t, "Check", measure.Check(bad), want)
	}
}
