package dry_test

import (
	"fmt"
	"math/big"
	"math/rand"
	"slices"
	"strings"
	"testing"

	"bushel/api"
	"bushel/dry"
)

// P6.1: curves.

// long returns a curve with so many points at the integers.
func long(points int) []api.Point {
	var c []api.Point
	for i := range points {
		c = append(c, api.Point{X: ratio(i, 1), Y: ratio(90-i, 1)})
	}
	return c
}

func TestCheckCurve(t *testing.T) {
	for what, c := range map[string][]api.Point{
		"the example": example(), "one point": curveOf("-5", "7"), "the most points": long(api.MaxPoints),
		"equal values": curveOf("0", "3", "1", "3", "2", "3"), "a curve that rises and falls": curveOf("-3", "0", "-5/2", "9", "0", "-9", "1/3", "100"),
		"long numbers": curveOf("-"+nines(600), nines(600), "1/"+nines(600), "-1/"+nines(600), nines(600), "0"),
	} {
		expect(t, what, dry.CheckCurve(c), api.OK)
	}
}

// curveFaults are the errors of curves in their order.
func curveFaults() []fault {
	return []fault{
		{"no points", api.ErrShape, func(a *args) { a.curve = nil }},
		{"an empty list of points", api.ErrShape, func(a *args) { a.curve = []api.Point{} }},
		{"too many points", api.ErrMany, func(a *args) { a.curve = make([]api.Point, api.MaxPoints+1) }},
		{"too many points without other errors", api.ErrMany, func(a *args) { a.curve = long(api.MaxPoints + 1) }},
		{"a first X that is no number", api.ErrForm, func(a *args) { a.curve[0] = api.Point{X: "x", Y: nines(601)} }},
		{"a second Y with too many digits", api.ErrLarge, func(a *args) { a.curve[1] = api.Point{X: "-1", Y: nines(601)} }},
		{"a third X as great as the second one", api.ErrOrder, func(a *args) { a.curve[2].X = "2" }},
		{"a fourth Y that is no number", api.ErrForm, func(a *args) { a.curve = append(a.curve, api.Point{X: "6", Y: "12.0"}) }},
	}
}

func TestErrorsOfCurves(t *testing.T) {
	for _, name := range []string{"CheckCurve", "At", "Inverse", "Area", "Time"} {
		later := fault{"bad numbers", api.ErrForm, func(a *args) { a.x, a.y, a.from, a.to, a.wet, a.target = "?", "?", "?", "?", "?", "?" }}
		if name == "CheckCurve" {
			expectErrors(t, name, curveFaults()...)
		} else {
			expectErrors(t, name, append(curveFaults(), later)...)
		}
		for i := range 3 {
			expectNumberErrors(t, func(a *args) *api.Rat { return &a.curve[i].X }, name)
			expectNumberErrors(t, func(a *args) *api.Rat { return &a.curve[i].Y }, name)
		}
	}
	expect(t, "an X a little greater", dry.CheckCurve(curveOf("1/3", "0", "334/1000", "0")), api.ErrForm)
	expect(t, "an X a little greater", dry.CheckCurve(curveOf("1/3", "0", "167/500", "0")), api.OK)
	expect(t, "an X below the one before", dry.CheckCurve(curveOf("0", "1", "2", "1", "1", "1", "3", "?")), api.ErrOrder)
	expect(t, "an X a little less", dry.CheckCurve(curveOf("1/3", "0", "333/1000", "0")), api.ErrOrder)
}

func TestErrorsOfPlaces(t *testing.T) {
	expectNumberErrors(t, func(a *args) *api.Rat { return &a.x }, "At")
	expectNumberErrors(t, func(a *args) *api.Rat { return &a.y }, "Inverse")
	expectNumberErrors(t, func(a *args) *api.Rat { return &a.from }, "Area")
	expectNumberErrors(t, func(a *args) *api.Rat { return &a.to }, "Area")
	for _, x := range []api.Rat{"-1/1000", "-7", "6001/1000", nines(600), "-" + nines(600)} {
		expectErrors(t, "At", fault{"x " + string(x), api.ErrRange, func(a *args) { a.x = x }})
		expectErrors(t, "Area",
			fault{"a bad from", api.ErrLarge, func(a *args) { a.from = nines(601) }},
			fault{"a bad to", api.ErrForm, func(a *args) { a.to = "?" }},
		)
		expectErrors(t, "Area",
			fault{"from " + string(x), api.ErrRange, func(a *args) { a.from = x }},
			fault{"to " + string(x), api.ErrRange, func(a *args) { a.to = x }},
			fault{"from greater than to", api.ErrOrder, func(a *args) { a.from = "5001/1000" }},
		)
		expectErrors(t, "Area",
			fault{"a bad to", api.ErrForm, func(a *args) { a.to = "?" }},
			fault{"from " + string(x), api.ErrRange, func(a *args) { a.from = x }},
		)
	}
	for _, y := range []api.Rat{"20001/1000", "11999/1000", "-15", nines(600)} {
		expectErrors(t, "Inverse", fault{"y " + string(y), api.ErrNone, func(a *args) { a.y = y }})
	}
}

func TestAt(t *testing.T) {
	for _, row := range []struct {
		c       []api.Point
		x, want api.Rat
	}{
		{example(), "1", "18"}, {example(), "3", "15"}, {example(), "0", "20"}, {example(), "2", "16"}, {example(), "6", "12"}, {example(), "1/3", "58/3"},
		{curveOf("5", "-7/3"), "5", "-7/3"},
		{curveOf("0", "3", "9", "3"), "22/7", "3"},
		{curveOf("0", "0", "1", nines(600)), "1/3", api.Rat(strings.Repeat("3", 600))},
		{curveOf("0", "0", nines(600), nines(600)), "1/" + nines(600), "1/" + nines(600)},
		{curveOf("-"+nines(600), nines(600), nines(600), nines(600)), "7", nines(600)},
	} {
		expect(t, fmt.Sprint("At ", row.c, row.x), ok[api.Rat](t, "At")(dry.At(row.c, row.x)), row.want)
	}
	a, e := dry.At(curveOf("0", "0", "1", "1/"+nines(600)), "1/2")
	expect(t, "At with a long denominator", []any{a, e}, []any{api.Rat(""), api.ErrLarge})
	a, e = dry.At(curveOf("0", nines(600), "1", "-"+nines(600)), "1/8")
	expect(t, "At with a long denominator and a short one", []any{a, e}, []any{api.Rat(""), api.ErrLarge})
}

func TestInverse(t *testing.T) {
	for _, row := range []struct {
		c       []api.Point
		y, want api.Rat
	}{
		{example(), "15", "3"}, {example(), "20", "0"}, {example(), "16", "2"}, {example(), "12", "6"}, {example(), "19", "1/2"},
		{curveOf("5", "-7/3"), "-7/3", "5"},
		{curveOf("-4", "3", "9", "3"), "3", "-4"},
		{curveOf("0", "1", "1", "3", "2", "3", "3", "5"), "3", "1"},
		{curveOf("0", "1", "2", "3", "4", "1"), "2", "1"},
		{curveOf("0", "1", "2", "3", "4", "1"), "1", "0"},
		{curveOf("0", "3", "2", "1", "4", "3"), "1", "2"},
		{curveOf("0", "3", "2", "1", "4", "3"), "5/2", "1/2"},
		{curveOf("0", "2", "1", "1", "2", "5"), "3", "3/2"},
		{curveOf("-1", "-1", "1", "1"), "0", "0"},
	} {
		expect(t, fmt.Sprint("Inverse ", row.c, row.y), ok[api.Rat](t, "Inverse")(dry.Inverse(row.c, row.y)), row.want)
	}
	a, e := dry.Inverse(curveOf("0", "0", "1/"+nines(600), "1"), "1/2")
	expect(t, "Inverse with a long denominator", []any{a, e}, []any{api.Rat(""), api.ErrLarge})
	a, e = dry.Inverse(curveOf("5", "-7/3"), "-2")
	expect(t, "Inverse of one point", []any{a, e}, []any{api.Rat(""), api.ErrNone})
}

func TestArea(t *testing.T) {
	for _, row := range []struct {
		c              []api.Point
		from, to, want api.Rat
	}{
		{example(), "0", "6", "92"}, {example(), "0", "2", "36"}, {example(), "2", "6", "56"}, {example(), "1", "3", "65/2"}, {example(), "1/2", "1", "37/4"},
		{example(), "3", "3", "0"}, {example(), "2", "2", "0"}, {example(), "0", "0", "0"}, {example(), "6", "6", "0"},
		{curveOf("5", "-7/3"), "5", "5", "0"},
		{curveOf("-1", "-1", "1", "1"), "-1", "1", "0"}, {curveOf("-1", "-1", "1", "1"), "-1", "0", "-1/2"},
		{curveOf("0", "0", "1", nines(600), "2", "0"), "0", "2", nines(600)},
	} {
		expect(t, fmt.Sprint("Area ", row.c, row.from, row.to), ok[api.Rat](t, "Area")(dry.Area(row.c, row.from, row.to)), row.want)
	}
	a, e := dry.Area(curveOf("0", nines(600), "2", nines(600)), "0", "2")
	expect(t, "Area with too many digits", []any{a, e}, []any{api.Rat(""), api.ErrLarge})
	expect(t, "Area of half of it", ok[api.Rat](t, "Area")(dry.Area(curveOf("0", nines(600), "2", nines(600)), "1/2", "3/2")), nines(600))
}

// randomCurve returns a curve with at most so many points, and with numbers of at most so many digits.
func randomCurve(r *rand.Rand, points, digits int) []api.Point {
	var c []api.Point
	for i := range 1 + r.Intn(points) {
		c = append(c, api.Point{X: ofBig(add(randomRat(r, 2, digits), whole(2*i-5))), Y: ofBig(sub(randomRat(r, 9, digits), whole(4)))})
	}
	return c
}

// valueIn returns the value of a curve at a number, by its definition, and whether there is one: the mean of two points weighted with their distances.
func valueIn(c []api.Point, x *big.Rat) (*big.Rat, bool) {
	for i, p := range c {
		if toBig(p.X).Cmp(x) == 0 {
			return toBig(p.Y), true
		}
		if i > 0 && toBig(c[i-1].X).Cmp(x) < 0 && toBig(p.X).Cmp(x) > 0 {
			left, right := sub(x, toBig(c[i-1].X)), sub(toBig(p.X), x)
			return div(add(mul(toBig(c[i-1].Y), right), mul(toBig(p.Y), left)), add(left, right)), true
		}
	}
	return nil, false
}

// placesOf returns all numbers at which a curve has a value, without those between two points that have it.
func placesOf(c []api.Point, y *big.Rat) []*big.Rat {
	var l []*big.Rat
	for i, p := range c {
		if toBig(p.Y).Cmp(y) == 0 {
			l = append(l, toBig(p.X))
		}
		if i == 0 {
			continue
		}
		from, to := toBig(c[i-1].Y), toBig(p.Y)
		if lesser(from, to).Cmp(y) < 0 && greater(from, to).Cmp(y) > 0 {
			part := div(sub(y, from), sub(to, from))
			l = append(l, add(toBig(c[i-1].X), mul(part, sub(toBig(p.X), toBig(c[i-1].X)))))
		}
	}
	return l
}

// areaBelow returns the integral of a curve: over each piece its length times the value in its middle.
func areaBelow(c []api.Point, from, to *big.Rat) *big.Rat {
	sum := new(big.Rat)
	for i := 1; i < len(c); i++ {
		left, right := greater(from, toBig(c[i-1].X)), lesser(to, toBig(c[i].X))
		if left.Cmp(right) < 0 {
			middle, _ := valueIn(c, div(add(left, right), whole(2)))
			sum = add(sum, mul(sub(right, left), middle))
		}
	}
	return sum
}

func TestCurvesAgainstDefinition(t *testing.T) {
	r := rand.New(rand.NewSource(11))
	codes := map[string]map[api.Errno]int{"At": {}, "Inverse": {}, "Area": {}}
	for i := range 3000 {
		digits := []int{1, 1, 2, 5, 40, 150, 300}[i%7]
		c := randomCurve(r, 6, digits)
		x, y := sub(randomRat(r, 12, digits), whole(5)), sub(randomRat(r, 9, digits), whole(4))
		if r.Intn(4) == 0 {
			p := c[r.Intn(len(c))]
			x, y = toBig(p.X), toBig(p.Y)
		}
		to := sub(randomRat(r, 12, digits), whole(5))
		if to.Cmp(x) < 0 {
			x, to = to, x
		}
		what := fmt.Sprint(c, x, y, to)

		want, wanted := api.Rat(""), api.ErrRange
		value, exists := valueIn(c, x)
		if exists {
			want, wanted = result(value)
		}
		got, e := dry.At(c, ofBig(x))
		expect(t, "At "+what, []any{got, e}, []any{want, wanted})
		codes["At"][e]++

		want, wanted = "", api.ErrNone
		if places := placesOf(c, y); len(places) > 0 {
			want, wanted = result(slices.MinFunc(places, (*big.Rat).Cmp))
		}
		got, e = dry.Inverse(c, ofBig(y))
		expect(t, "Inverse "+what, []any{got, e}, []any{want, wanted})
		codes["Inverse"][e]++

		want, wanted = "", api.ErrRange
		if _, isWithin := valueIn(c, to); exists && isWithin {
			want, wanted = result(areaBelow(c, x, to))
		}
		got, e = dry.Area(c, ofBig(x), ofBig(to))
		expect(t, "Area "+what, []any{got, e}, []any{want, wanted})
		codes["Area"][e]++
	}
	for name, counts := range codes {
		for _, e := range []api.Errno{api.OK, api.ErrLarge} {
			if counts[e] < 50 {
				t.Errorf("%s: error %d only %d times", name, e, counts[e])
			}
		}
	}
}
