package grade_test

import (
	"math"
	"math/big"
	"math/rand"
	"slices"
	"strings"
	"testing"

	"bushel/api"
	"bushel/grade"
)

// P2.4: discounts.

func TestLack(t *testing.T) {
	both := changed(func(s *api.Scheme) { s.Grades[0].Least[0], s.Grades[0].Most[1] = "10", "81" })
	for _, row := range []struct {
		s      api.Scheme
		grade  int
		values []api.Rat
		want   []api.Rat
	}{
		{example(), 0, []api.Rat{"67/5", "79"}, []api.Rat{"2/5", "0"}},
		{example(), 0, []api.Rat{"13", "78"}, []api.Rat{"0", "0"}},
		{example(), 1, []api.Rat{"67/5", "79"}, []api.Rat{"0", "0"}},
		{example(), 0, []api.Rat{"17", "151/2"}, []api.Rat{"4", "5/2"}},
		{example(), 2, []api.Rat{"17", "-5"}, []api.Rat{"1", "0"}},
		{both, 0, []api.Rat{"9", "82"}, []api.Rat{"1", "1"}},
		{both, 0, []api.Rat{"-1/3", "77"}, []api.Rat{"31/3", "1"}},
		{both, 0, []api.Rat{"14", "163/2"}, []api.Rat{"1", "1/2"}},
	} {
		l, e := grade.Lack(row.s, row.grade, row.values)
		expect(t, "Lack", e, api.OK)
		expect(t, "Lack", l, row.want)
	}
	l, e := grade.Lack(example(), 0, []api.Rat{"13", "1/" + nines(600)})
	expect(t, "Lack of a long number", e, api.ErrLarge)
	expectList(t, "Lack of a long number", l, nil)
}

func TestDiscount(t *testing.T) {
	rate := func(factor int, step, price api.Rat) api.Rate {
		return api.Rate{Factor: factor, Step: step, Price: price}
	}
	values := []api.Rat{"67/5", "79"}
	for _, row := range []struct {
		what   string
		grade  int
		values []api.Rat
		rates  []api.Rate
		want   api.Rat
	}{
		{"the example", 0, values, []api.Rate{rate(0, "1/2", "3")}, "3"},
		{"no rates", 0, values, nil, "0"},
		{"nothing is lacking", 1, values, []api.Rate{rate(0, "1/2", "3"), rate(1, "1", "5")}, "0"},
		{"whole steps", 0, values, []api.Rate{rate(0, "1/5", "3")}, "6"},
		{"a step that is begun", 0, values, []api.Rate{rate(0, "399/1000", "3")}, "6"},
		{"a rate twice", 0, values, []api.Rate{rate(0, "1/2", "3"), rate(0, "1/2", "3"), rate(0, "1/10", "1/3")}, "22/3"},
		{"two factors", 0, []api.Rat{"15", "75"}, []api.Rate{rate(0, "1/2", "5/2"), rate(1, "1", "1/7")}, "73/7"},
		{"a price of 0", 0, values, []api.Rate{rate(0, "1/2", "0")}, "0"},
		{"one of two rates", 0, values, []api.Rate{rate(1, "1/100", "1000"), rate(0, "1", "1/2")}, "1/2"},
		{"a great step", 0, values, []api.Rate{rate(0, nines(600), nines(600))}, nines(600)},
		{"a long value", 0, []api.Rat{api.Rat("1" + strings.Repeat("0", 599) + "/3"), "78"}, []api.Rate{rate(0, "1"+api.Rat(strings.Repeat("0", 599)), "3")}, "3"},
		{"a full list", 0, values, slices.Repeat([]api.Rate{rate(0, "1/2", "3")}, api.MaxList), "768"},
	} {
		a, e := grade.Discount(example(), row.grade, row.values, row.rates)
		expect(t, row.what, e, api.OK)
		expect(t, row.what, a, row.want)
	}
	for _, row := range []struct {
		what  string
		rates []api.Rate
		want  api.Errno
	}{
		{"too many", make([]api.Rate, 257), api.ErrMany},
		{"a factor below 0", []api.Rate{rate(-1, "x", "")}, api.ErrUnknown}, {"a factor too great", []api.Rate{rate(2, "x", "")}, api.ErrUnknown},
		{"the greatest factor", []api.Rate{rate(math.MaxInt, "1", "1")}, api.ErrUnknown}, {"the least factor", []api.Rate{rate(math.MinInt, "1", "1")}, api.ErrUnknown},
		{"the step 0", []api.Rate{rate(0, "0", "x")}, api.ErrRange}, {"a negative step", []api.Rate{rate(1, "-1", "x")}, api.ErrRange},
		{"a negative price", []api.Rate{rate(0, "1", "-1/9")}, api.ErrRange},
		{"the first error", []api.Rate{rate(0, "1", "1"), rate(0, "1", "-1"), rate(9, "", "")}, api.ErrRange},
		{"a long discount", []api.Rate{rate(0, "1/5", nines(600))}, api.ErrLarge},
		{"a long sum", []api.Rate{rate(0, "1", nines(600)), rate(0, "1", "1")}, api.ErrLarge},
	} {
		a, e := grade.Discount(example(), 0, values, row.rates)
		expect(t, row.what, e, row.want)
		expect(t, row.what, a, api.Rat(""))
	}
	for bad, want := range badNumbers() {
		for _, r := range []api.Rate{rate(0, bad, "?"), rate(0, "1", bad)} {
			a, e := grade.Discount(example(), 0, values, []api.Rate{rate(1, "1", "1"), r, rate(7, "", "")})
			expect(t, "Discount by a bad rate", e, want)
			expect(t, "Discount by a bad rate", a, api.Rat(""))
		}
	}
}

// What a value lacks is a number on the way to the discount, which has no limit.
func TestDiscountOfLongLacks(t *testing.T) {
	long := nines(600)
	s := changed(func(s *api.Scheme) { s.Grades[0].Most[0] = "1/" + long })
	values := []api.Rat{"1/1" + api.Rat(strings.Repeat("0", 599)), "78"}
	_, e := grade.Lack(s, 0, values)
	expect(t, "Lack of more than 600 digits", e, api.ErrLarge)
	a, e := grade.Discount(s, 0, values, []api.Rate{{Factor: 0, Step: "1", Price: "7/2"}})
	expect(t, "Discount of a lack of more than 600 digits", e, api.OK)
	expect(t, "Discount of a lack of more than 600 digits", a, api.Rat("7/2"))
}

// discountOf returns a discount, by its definition.
func discountOf(s api.Scheme, g int, values []api.Rat, rates []api.Rate) *big.Rat {
	sum := new(big.Rat)
	for _, r := range rates {
		lack := lackOf(s.Grades[g].Least[r.Factor], s.Grades[g].Most[r.Factor], values[r.Factor])
		for lack.Sign() > 0 {
			sum.Add(sum, toBig(r.Price))
			lack.Sub(lack, toBig(r.Step))
		}
	}
	return sum
}

// lackOf returns what a value lacks for limits, by its definition.
func lackOf(least, most, value api.Rat) *big.Rat {
	lack := new(big.Rat)
	if least != "" && compare(value, least) < 0 {
		lack.Sub(toBig(least), toBig(value))
	}
	if most != "" && compare(value, most) > 0 {
		lack.Sub(toBig(value), toBig(most))
	}
	return lack
}

func TestDiscountsAgainstDefinition(t *testing.T) {
	r := rand.New(rand.NewSource(41))
	for range 500 {
		s := randomScheme(r)
		g, values := r.Intn(len(s.Grades)), randomValues(r, s)
		l, e := grade.Lack(s, g, values)
		expect(t, "Lack", e, api.OK)
		for f, v := range values {
			expect(t, "Lack", l[f], ofBig(lackOf(s.Grades[g].Least[f], s.Grades[g].Most[f], v)))
		}
		var rates []api.Rate
		for range r.Intn(5) {
			rates = append(rates, api.Rate{Factor: r.Intn(len(s.Factors)), Step: ofBig(big.NewRat(1+r.Int63n(9), 1+r.Int63n(4))), Price: ofBig(big.NewRat(r.Int63n(9), 1+r.Int63n(4)))})
		}
		a, e := grade.Discount(s, g, values, rates)
		expect(t, "Discount", e, api.OK)
		expect(t, "Discount", a, ofBig(discountOf(s, g, values, rates)))
	}
}
