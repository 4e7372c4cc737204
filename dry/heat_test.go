package dry_test

import (
	"fmt"
	"math/big"
	"math/rand"
	"slices"
	"testing"

	"bushel/api"
	"bushel/dry"
)

// P6.3: heat.

// manyBands returns so many bands of one percent.
func manyBands(n int) []api.Band {
	var l []api.Band
	for i := range n {
		l = append(l, api.Band{Low: ratio(i, 1), High: ratio(i+1, 1), Heat: ratio(i, 2)})
	}
	return l
}

func TestCheckBands(t *testing.T) {
	for what, l := range map[string][]api.Band{
		"the example": exampleBands(), "one band": {{Low: "5", High: "6", Heat: "0"}}, "the most bands": manyBands(api.MaxPoints),
		"the widest bands": {{Low: "0", High: "1/" + nines(600), Heat: nines(600)}, {Low: "1/" + nines(600), High: "9" + nines(598) + "/" + power(597), Heat: "1/7"}},
	} {
		expect(t, what, dry.CheckBands(l), api.OK)
	}
}

// bandFaults are the errors of bands in their order.
func bandFaults() []fault {
	return []fault{
		{"no bands", api.ErrShape, func(a *args) { a.bands = nil }},
		{"an empty list of bands", api.ErrShape, func(a *args) { a.bands = []api.Band{} }},
		{"too many bands", api.ErrMany, func(a *args) { a.bands = make([]api.Band, api.MaxPoints+1) }},
		{"too many bands without other errors", api.ErrMany, func(a *args) { a.bands = manyBands(api.MaxPoints + 1) }},
		{"a first Low below 0", api.ErrRange, func(a *args) { a.bands[0].Low = "-1" }},
		{"a second Low that is not the High before", api.ErrOrder, func(a *args) { a.bands[1].Low = "17" }},
		{"a third Heat that is no number", api.ErrForm, func(a *args) { a.bands = append(a.bands, api.Band{Low: "30", High: "31", Heat: "?"}) }},
	}
}

func TestErrorsOfBands(t *testing.T) {
	expectErrors(t, "CheckBands", bandFaults()...)
	expectErrors(t, "Energy", append(bandFaults(), fault{"no mass", api.ErrRange, func(a *args) { a.mass = 0 }})...)
	for i := range 2 {
		expectNumberErrors(t, func(a *args) *api.Rat { return &a.bands[i].Low }, "CheckBands", "Energy")
		expectNumberErrors(t, func(a *args) *api.Rat { return &a.bands[i].High }, "CheckBands", "Energy")
		expectNumberErrors(t, func(a *args) *api.Rat { return &a.bands[i].Heat }, "CheckBands", "Energy")
	}
	for _, row := range []struct {
		low, high, heat api.Rat
		e               api.Errno
	}{
		{"x", nines(601), "-1", api.ErrForm}, {nines(601), "x", "-1", api.ErrLarge}, {"-1", nines(601), "x", api.ErrLarge}, {"-1", "x", nines(601), api.ErrForm},
		{"-1", "0", "x", api.ErrForm}, {"0", "100", nines(601), api.ErrLarge},
		{"-1/1000", "20", "1", api.ErrRange}, {"5", "5", "1", api.ErrRange}, {"5", "4", "1", api.ErrRange}, {"5", "100", "1", api.ErrRange},
		{"5", "1001/10", "1", api.ErrRange}, {"5", "6", "-1/1000", api.ErrRange}, {"0", "0", "0", api.ErrRange}, {"100", "101", "1", api.ErrRange},
		{"-7", "-6", "1", api.ErrRange}, {"16", "20", "-1", api.ErrRange},
	} {
		bad := api.Band{Low: row.low, High: row.high, Heat: row.heat}
		expect(t, fmt.Sprint("the band ", bad), dry.CheckBands([]api.Band{bad}), row.e)
		expect(t, fmt.Sprint("the band ", bad, " behind others"), dry.CheckBands(append(exampleBands(), bad)), row.e)
	}
	for _, low := range []api.Rat{"29", "31", "0", "16", "30001/1000", "29999/1000"} {
		expect(t, "a band from "+string(low), dry.CheckBands(append(exampleBands(), api.Band{Low: low, High: "50", Heat: "0"})), api.ErrOrder)
	}
}

func TestEnergy(t *testing.T) {
	one := []api.Band{{Low: "10", High: "50", Heat: "1/3"}}
	for _, row := range []struct {
		l        []api.Band
		mass     int
		from, to api.Rat
		want     api.Rat
	}{
		{exampleBands(), 1050, "20", "15", "3550/17"}, {exampleBands(), 1050, "20", "16", "150"}, {exampleBands(), 1000, "16", "15", "1000/17"},
		{exampleBands(), 1000, "20", "20", "0"}, {exampleBands(), 1000, "16", "16", "0"}, {exampleBands(), 1000, "30", "30", "0"}, {exampleBands(), 1000, "0", "0", "0"},
		{exampleBands(), 1000, "30", "0", ofBig(add(mul(sub(whole(1000), big.NewRat(70000, 84)), whole(3)), mul(sub(big.NewRat(70000, 84), whole(700)), whole(5))))},
		{one, 100, "50", "10", "400/27"}, {one, 100, "10", "10", "0"}, {[]api.Band{{Low: "0", High: "99", Heat: "0"}}, 7, "98", "1/7", "0"},
		// The water is 1 kilogram, and the heat the longest number.
		{[]api.Band{{Low: "0", High: "60", Heat: nines(600)}}, 2, "50", "0", nines(600)},
	} {
		what := fmt.Sprint("Energy ", row.l, row.mass, row.from, row.to)
		expect(t, what, ok[api.Rat](t, what)(dry.Energy(row.l, row.mass, row.from, row.to)), row.want)
	}
	a, e := dry.Energy([]api.Band{{Low: "0", High: "60", Heat: nines(600)}}, 4, "50", "0")
	expect(t, "Energy with too many digits", []any{a, e}, []any{api.Rat(""), api.ErrLarge})
	a, e = dry.Energy([]api.Band{{Low: "0", High: "60", Heat: "1/" + nines(600)}}, 1, "50", "0")
	expect(t, "Energy with a long denominator", []any{a, e}, []any{api.Rat(""), api.ErrLarge})
}

func TestErrorsOfEnergy(t *testing.T) {
	expectErrors(t, "Energy",
		fault{"a target above the moisture", api.ErrOrder, func(a *args) { a.wet, a.target = "31", "32" }},
		fault{"a moisture above the last band", api.ErrRange, func(a *args) { a.wet, a.target = "31", "13" }},
	)
	narrow := func(a *args) {
		a.bands = []api.Band{{Low: "14", High: "16", Heat: "1"}, {Low: "16", High: "17", Heat: "1"}}
	}
	for _, row := range [][2]api.Rat{{"18", "15"}, {"17001/1000", "15"}, {"16", "13999/1000"}, {"18", "13"}, {"13", "13"}, {"18", "18"}, {"99", "0"}, {"13", "12"}} {
		expectErrors(t, "Energy", fault{fmt.Sprint("from and to ", row), api.ErrRange, func(a *args) {
			narrow(a)
			a.wet, a.target = row[0], row[1]
		}})
	}
	a := goodArgs()
	narrow(&a)
	for _, row := range [][2]api.Rat{{"17", "14"}, {"17", "17"}, {"14", "14"}} {
		_, e := dry.Energy(a.bands, a.mass, row[0], row[1])
		expect(t, fmt.Sprint("from and to ", row), e, api.OK)
	}
}

// TestEnergyAgainstDefinition adds up the heat of small pieces, none of which is in two bands.
func TestEnergyAgainstDefinition(t *testing.T) {
	r := rand.New(rand.NewSource(31))
	codes := map[api.Errno]int{}
	for i := range 1000 {
		digits := []int{1, 2, 5, 60, 200}[i%5]
		var bands []api.Band
		ends := []*big.Rat{randomRat(r, 20, digits)}
		for range 1 + r.Intn(5) {
			high := add(whole(len(ends)*14+6), randomRat(r, 14, digits))
			bands = append(bands, api.Band{Low: ofBig(ends[len(ends)-1]), High: ofBig(high), Heat: ofBig(randomRat(r, 9, digits))})
			ends = append(ends, high)
		}
		mass, from, to := 1+r.Intn(9000), randomRat(r, 100, digits), randomRat(r, 100, digits)
		if r.Intn(3) == 0 {
			from = ends[r.Intn(len(ends))]
		}
		if r.Intn(3) == 0 {
			to = ends[r.Intn(len(ends))]
		}
		if from.Cmp(to) < 0 {
			from, to = to, from
		}
		want, wanted := api.Rat(""), api.ErrRange
		if from.Cmp(ends[len(ends)-1]) <= 0 && to.Cmp(ends[0]) >= 0 {
			want, wanted = result(heatBetween(bands, matterOf(mass, from), from, to))
		}
		got, e := dry.Energy(bands, mass, ofBig(from), ofBig(to))
		expect(t, fmt.Sprint("Energy ", bands, mass, from, to), []any{got, e}, []any{want, wanted})
		codes[e]++
	}
	for _, e := range []api.Errno{api.OK, api.ErrRange, api.ErrLarge} {
		if codes[e] < 50 {
			t.Errorf("error %d: only %d times", e, codes[e])
		}
	}
}

// heatBetween returns the heat while the moisture of dry matter falls.
func heatBetween(bands []api.Band, matter, from, to *big.Rat) *big.Rat {
	marks := []*big.Rat{from, to}
	for _, b := range bands {
		for _, end := range []*big.Rat{toBig(b.Low), toBig(b.High)} {
			if end.Cmp(to) > 0 && end.Cmp(from) < 0 {
				marks = append(marks, end)
			}
		}
	}
	slices.SortFunc(marks, (*big.Rat).Cmp)
	sum := new(big.Rat)
	for i, high := range marks[1:] {
		low := marks[i]
		middle := div(add(low, high), whole(2))
		water := sub(wetMass(matter, high), wetMass(matter, low))
		for _, b := range bands {
			if middle.Cmp(toBig(b.Low)) > 0 && middle.Cmp(toBig(b.High)) < 0 {
				sum = add(sum, mul(water, toBig(b.Heat)))
			}
		}
	}
	return sum
}
