package grade_test

import (
	"math"
	"math/big"
	"math/rand"
	"slices"
	"strings"
	"testing"

	"bushel/api"
	"bushel/grade"
)

// P2.2: samples and readings.

func TestComposite(t *testing.T) {
	for _, row := range []struct {
		what    string
		samples [][]api.Span
		weights []int
		want    []api.Span
	}{
		{"the example", [][]api.Span{{span("12", "13")}, {span("14", "15")}}, []int{1, 3}, []api.Span{span("27/2", "29/2")}},
		{"one sample", [][]api.Span{{span("12", "13"), span("-1/3", "1/2")}}, []int{7}, []api.Span{span("12", "13"), span("-1/3", "1/2")}},
		{"a weight of 0", [][]api.Span{{span("1", "2"), span("3", "4")}, {span("5", "6"), span("7", "8")}}, []int{0, 1}, []api.Span{span("5", "6"), span("7", "8")}},
		{"the greatest weights", [][]api.Span{{span("0", "0")}, {span("1", "2")}}, []int{api.MaxNumber, api.MaxNumber}, []api.Span{span("1/2", "1")}},
		{"thirds", [][]api.Span{{span("0", "1")}, {span("1", "1")}, {span("0", "0")}}, []int{1, 1, 1}, []api.Span{span("1/3", "2/3")}},
	} {
		before := slices.Clone(row.samples[0])
		got, e := grade.Composite(row.samples, row.weights)
		expect(t, row.what, e, api.OK)
		expect(t, row.what, got, row.want)
		got[0].Low = "99"
		expect(t, "the argument of Composite", row.samples[0], before)
	}
}

func TestCompositeAgainstBig(t *testing.T) {
	r := rand.New(rand.NewSource(21))
	for i := range 100 {
		n, factors := 1+r.Intn(5), 1+r.Intn(api.MaxFactors)
		if i == 0 {
			n, factors = api.MaxPoints, api.MaxFactors
		}
		samples, weights := make([][]api.Span, n), make([]int, n)
		for k := range samples {
			for range factors {
				low := big.NewRat(r.Int63n(200)-100, 1+r.Int63n(12))
				samples[k] = append(samples[k], span(ofBig(low), ofBig(new(big.Rat).Add(low, big.NewRat(r.Int63n(9), 7)))))
			}
			weights[k] = r.Intn(4)
		}
		weights[r.Intn(n)] = 1 + r.Intn(api.MaxNumber)
		got, e := grade.Composite(samples, weights)
		expect(t, "Composite", e, api.OK)
		for f := range factors {
			low, high, sum := new(big.Rat), new(big.Rat), new(big.Rat)
			for k, s := range samples {
				w := big.NewRat(int64(weights[k]), 1)
				sum.Add(sum, w)
				low.Add(low, new(big.Rat).Mul(w, toBig(s[f].Low)))
				high.Add(high, new(big.Rat).Mul(w, toBig(s[f].High)))
			}
			expect(t, "Composite", got[f], span(ofBig(low.Quo(low, sum)), ofBig(high.Quo(high, sum))))
		}
	}
}

func TestErrorsOfComposite(t *testing.T) {
	one := []api.Span{span("1", "2")}
	two := []api.Span{span("1", "2"), span("3", "4")}
	nine := slices.Repeat(one, api.MaxFactors+1)
	bad := []api.Span{span("2", "1")}
	for _, row := range []struct {
		what    string
		samples [][]api.Span
		weights []int
		want    api.Errno
	}{
		{"no samples", nil, nil, api.ErrShape}, {"an empty list", [][]api.Span{}, []int{1}, api.ErrShape},
		{"too many samples", slices.Repeat([][]api.Span{one}, 65), slices.Repeat([]int{1}, 65), api.ErrMany},
		{"too many bad samples", make([][]api.Span, 65), nil, api.ErrMany},
		{"a sample without spans", [][]api.Span{nil}, []int{1}, api.ErrShape}, {"a second one without spans", [][]api.Span{one, {}}, []int{1, 1}, api.ErrShape},
		{"too many spans", [][]api.Span{nine}, []int{1}, api.ErrMany}, {"too many spans of the second one", [][]api.Span{one, nine}, []int{1, 1}, api.ErrMany},
		{"too many bad spans", [][]api.Span{make([]api.Span, 9)}, []int{1}, api.ErrMany},
		{"more spans than the first one", [][]api.Span{one, two}, []int{1, 1}, api.ErrShape}, {"less spans than the first one", [][]api.Span{two, one}, []int{1, 1}, api.ErrShape},
		{"an error before another number of spans", [][]api.Span{bad, two}, []int{1, 1}, api.ErrOrder},
		{"another number of spans before an error", [][]api.Span{one, append(two, span("", ""))}, []int{1, 1}, api.ErrShape},
		{"the second factor", [][]api.Span{two, {span("1", "2"), span("x", "2")}}, nil, api.ErrForm},
		{"no weights", [][]api.Span{one}, nil, api.ErrShape}, {"too many weights", [][]api.Span{one}, []int{1, 1}, api.ErrShape}, {"too few weights", [][]api.Span{one, one}, []int{-1}, api.ErrShape},
		{"a negative weight", [][]api.Span{one, one}, []int{1, -1}, api.ErrRange}, {"a great weight", [][]api.Span{one, one}, []int{api.MaxNumber + 1, 1}, api.ErrRange},
		{"the greatest integer", [][]api.Span{one}, []int{math.MaxInt}, api.ErrRange}, {"the least integer", [][]api.Span{one}, []int{math.MinInt}, api.ErrRange},
		{"the weights 0", [][]api.Span{one, one}, []int{0, 0}, api.ErrZero},
		{"an error of weights before long numbers", [][]api.Span{{span("0", "1/"+nines(600))}, {span("0", "0")}}, []int{0, 0}, api.ErrZero},
		{"long numbers", [][]api.Span{{span("0", "1/"+nines(600))}, {span("0", "0")}}, []int{1, 1}, api.ErrLarge},
		{"long numbers of the second factor", [][]api.Span{{span("0", "0"), span("0", "1/"+nines(600))}, {span("0", "0"), span("0", "0")}}, []int{1, 1}, api.ErrLarge},
	} {
		got, e := grade.Composite(row.samples, row.weights)
		expect(t, row.what, e, row.want)
		expectList(t, row.what, got, nil)
	}
	for s, want := range badSpans() {
		_, e := grade.Composite([][]api.Span{one, {s}, {span("", "")}}, nil)
		expect(t, "Composite of a bad span", e, want)
	}
}

// badFactors are factors with their errors.
func badFactors() map[api.Factor]api.Errno {
	up := api.Rounding{Kind: "up", Step: "1"}
	l := map[api.Factor]api.Errno{
		{}: api.ErrName, {Name: "a b", Tolerance: "x"}: api.ErrName, {Name: strings.Repeat("a", 25), Tolerance: "0", Rounding: up}: api.ErrName,
		{Name: "", Tolerance: "0", Rounding: up}: api.ErrName, {Name: "a", Tolerance: "-1", Rounding: up}: api.ErrRange,
		{Name: "a", Tolerance: "-1/" + nines(600)}: api.ErrRange, {Name: "a", Tolerance: "0"}: api.ErrKind,
		{Name: "a", Tolerance: "0", Rounding: api.Rounding{Kind: "half", Step: "1"}}:      api.ErrKind,
		{Name: "a", Tolerance: "0", Rounding: api.Rounding{Kind: "up", Step: "0"}}:        api.ErrRange,
		{Name: "a", Tolerance: "0", Rounding: api.Rounding{Kind: "up", Step: "-1"}}:       api.ErrRange,
		{Name: "a", Tolerance: "0", Rounding: api.Rounding{Kind: "up", Step: "2/4"}}:      api.ErrForm,
		{Name: "a", Tolerance: "0", Rounding: api.Rounding{Kind: "up", Step: nines(601)}}: api.ErrLarge,
	}
	for bad, e := range badNumbers() {
		l[api.Factor{Name: "a", Tolerance: bad}] = e
	}
	return l
}

func TestCheckFactor(t *testing.T) {
	for _, f := range []api.Factor{moisture(), weight(), {Name: "a", Tolerance: "0", Rounding: api.Rounding{Kind: "down", Step: "1/" + nines(600)}}, {Name: strings.Repeat("Z", 24), Tolerance: nines(600), Rounding: moisture().Rounding}} {
		expect(t, "CheckFactor of "+f.Name, grade.CheckFactor(f), api.OK)
	}
	for f, want := range badFactors() {
		expect(t, "CheckFactor", grade.CheckFactor(f), want)
		a, s, e := grade.Reading(f, "?")
		expect(t, "Reading by a bad factor", e, want)
		expect(t, "Reading by a bad factor", span(a, s.Low+s.High), api.Span{})
		a, e = grade.Final(f, nil)
		expect(t, "Final by a bad factor", e, want)
		expect(t, "Final by a bad factor", a, api.Rat(""))
	}
}

func TestReading(t *testing.T) {
	for _, row := range []struct {
		f       api.Factor
		a, want api.Rat
		s       api.Span
	}{
		{moisture(), "13449/1000", "67/5", span("66/5", "68/5")},
		{moisture(), "269/20", "27/2", span("133/10", "137/10")},
		{moisture(), "-1/20", "0", span("-1/5", "1/5")},
		{weight(), "313/4", "78", span("155/2", "157/2")},
		{weight(), "311/4", "78", span("155/2", "157/2")},
		{api.Factor{Name: "a", Tolerance: "0", Rounding: api.Rounding{Kind: "up", Step: "1/3"}}, "1/2", "2/3", span("2/3", "2/3")},
		{api.Factor{Name: "a", Tolerance: "10", Rounding: api.Rounding{Kind: "down", Step: "1"}}, "-1/2", "-1", span("-11", "9")},
	} {
		a, s, e := grade.Reading(row.f, row.a)
		expect(t, "Reading of "+string(row.a), e, api.OK)
		expect(t, "Reading of "+string(row.a), a, row.want)
		expect(t, "Reading of "+string(row.a), s, row.s)
	}
}

func TestErrorsOfReading(t *testing.T) {
	by := func(tolerance api.Rat, kind string, step api.Rat) api.Factor {
		return api.Factor{Name: "a", Tolerance: tolerance, Rounding: api.Rounding{Kind: kind, Step: step}}
	}
	for _, row := range []struct {
		what string
		f    api.Factor
		a    api.Rat
		want api.Errno
	}{
		{"the reading is too long", by("0", "up", "2"), nines(600), api.ErrLarge},
		{"the lower end is too long", by("1", "up", "1"), "-" + nines(600), api.ErrLarge},
		{"the upper end is too long", by("1", "up", "1"), nines(600), api.ErrLarge},
		{"the longest numbers", by("0", "up", "1"), nines(600), api.OK},
		{"a long number that is rounded", by("0", "down", "1"), "1/" + nines(600), api.OK},
	} {
		a, s, e := grade.Reading(row.f, row.a)
		expect(t, row.what, e, row.want)
		expect(t, row.what, a != "" && s != api.Span{}, row.want == api.OK)
	}
	for bad, want := range badNumbers() {
		a, s, e := grade.Reading(moisture(), bad)
		expect(t, "Reading of a bad number", e, want)
		expect(t, "Reading of a bad number", span(a, s.Low+s.High), api.Span{})
	}
}

func TestFinal(t *testing.T) {
	long := nines(600)
	exactly := api.Factor{Name: "a", Tolerance: "0", Rounding: moisture().Rounding}
	for _, row := range []struct {
		what     string
		f        api.Factor
		readings []api.Rat
		want     api.Rat
		e        api.Errno
	}{
		{"one", moisture(), []api.Rat{"67/5"}, "67/5", api.OK},
		{"two that agree", moisture(), []api.Rat{"67/5", "68/5"}, "67/5", api.OK},
		{"two that agree, the greater one first", moisture(), []api.Rat{"68/5", "67/5"}, "68/5", api.OK},
		{"two that hardly disagree", moisture(), []api.Rat{"67/5", "13601/1000"}, "", api.ErrConflict},
		{"two that do not agree", moisture(), []api.Rat{"67/5", "69/5"}, "", api.ErrConflict},
		{"two that do not agree, the greater one first", moisture(), []api.Rat{"69/5", "67/5"}, "", api.ErrConflict},
		{"the third one is in the middle", moisture(), []api.Rat{"67/5", "69/5", "68/5"}, "68/5", api.OK},
		{"the first one is in the middle", moisture(), []api.Rat{"67/5", "69/5", "13"}, "67/5", api.OK},
		{"the second one is in the middle", moisture(), []api.Rat{"67/5", "69/5", "99"}, "69/5", api.OK},
		{"negative ones", moisture(), []api.Rat{"-1", "-10", "-2"}, "-2", api.OK},
		{"two of three are equal", moisture(), []api.Rat{"67/5", "69/5", "69/5"}, "69/5", api.OK},
		{"the least ones are equal", moisture(), []api.Rat{"67/5", "69/5", "67/5"}, "67/5", api.OK},
		{"three of which the first two agree", moisture(), []api.Rat{"67/5", "68/5", "69/5"}, "", api.ErrState},
		{"three equal ones", moisture(), []api.Rat{"1", "1", "1"}, "", api.ErrState},
		{"without a tolerance", exactly, []api.Rat{"1", "1"}, "1", api.OK},
		{"without a tolerance, different", exactly, []api.Rat{"1", "2"}, "", api.ErrConflict},
		{"none", moisture(), nil, "", api.ErrShape}, {"an empty list", moisture(), []api.Rat{}, "", api.ErrShape},
		{"four", moisture(), []api.Rat{"1", "2", "3", "4"}, "", api.ErrMany}, {"four bad ones", moisture(), make([]api.Rat, 4), "", api.ErrMany},
		{"a bad one before the conflict", moisture(), []api.Rat{"1", "9", "x"}, "", api.ErrForm},
		{"a bad one before the state", moisture(), []api.Rat{"1", "1", nines(601)}, "", api.ErrLarge},
		{"long numbers far apart", moisture(), []api.Rat{long, "-" + long}, "", api.ErrConflict},
		{"long numbers", moisture(), []api.Rat{long, "-" + long, "1/" + long}, "1/" + long, api.OK},
		{"long numbers near each other", moisture(), []api.Rat{"1/" + long, "1/1" + api.Rat(strings.Repeat("0", 599))}, "1/" + long, api.OK},
	} {
		a, e := grade.Final(row.f, row.readings)
		expect(t, row.what, e, row.e)
		expect(t, row.what, a, row.want)
	}
	for bad, want := range badNumbers() {
		for _, l := range [][]api.Rat{{bad}, {"1", bad}, {"1", bad, "?"}, {"1", "1", bad}} {
			a, e := grade.Final(moisture(), l)
			expect(t, "Final of a bad number", e, want)
			expect(t, "Final of a bad number", a, api.Rat(""))
		}
	}
}
