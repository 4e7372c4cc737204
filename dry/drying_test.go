package dry_test

import (
	"fmt"
	"math"
	"math/big"
	"math/rand"
	"slices"
	"testing"

	"bushel/api"
	"bushel/dry"
)

// P6.2: drying.

func TestTime(t *testing.T) {
	for _, row := range []struct {
		c              []api.Point
		from, to, want api.Rat
	}{
		{example(), "18", "13", "4"}, {example(), "20", "12", "6"}, {example(), "16", "16", "0"}, {example(), "20", "20", "0"}, {example(), "12", "12", "0"},
		{example(), "20", "16", "2"}, {example(), "33/2", "16", "1/4"}, {example(), "17", "47/3", "5/6"},
		{curveOf("-7/2", "14"), "14", "14", "0"}, {curveOf("0", "0"), "0", "0", "0"},
		{curveOf("-9", "99", "9", "0"), "99", "0", "18"},
		{curveOf("0", api.Rat("9"+nines(599)+"/"+power(598)), "1", "1"), "1", "1", "0"},
	} {
		expect(t, fmt.Sprint("Time ", row.c, row.from, row.to), ok[api.Rat](t, "Time")(dry.Time(row.c, row.from, row.to)), row.want)
	}
	a, e := dry.Time(curveOf("0", "20", "1/"+nines(600), "10"), "20", "15")
	expect(t, "Time with a long denominator", []any{a, e}, []any{api.Rat(""), api.ErrLarge})
}

func TestErrorsOfTime(t *testing.T) {
	expectNumberErrors(t, func(a *args) *api.Rat { return &a.wet }, "Time")
	expectNumberErrors(t, func(a *args) *api.Rat { return &a.target }, "Time")
	faults := []fault{
		{"a last X in a wrong order", api.ErrOrder, func(a *args) { a.curve[2].X = "1" }},
		{"a first Y that is no moisture", api.ErrRange, func(a *args) { a.curve[0].Y = "100" }},
		{"a second Y as great as the first one", api.ErrOrder, func(a *args) { a.curve[1].Y = "20" }},
		{"a third Y that is no moisture", api.ErrRange, func(a *args) { a.curve[2].Y = "-1" }},
		{"a bad from", api.ErrForm, func(a *args) { a.wet = "?" }},
		{"a bad to", api.ErrLarge, func(a *args) { a.target = nines(601) }},
	}
	expectErrors(t, "Time", faults...)
	// A second Y of 20 does not fall behind a first one of 20, but does behind one of 100, which is no moisture itself.
	for _, y := range []api.Rat{"100", "1001/10", "-1/100", "-3", nines(600)} {
		for i := range 3 {
			expectErrors(t, "Time", fault{"a Y of " + string(y), api.ErrRange, func(a *args) { a.curve[i].Y = y }})
		}
	}
	expectErrors(t, "Time", fault{"a last Y that rises", api.ErrOrder, func(a *args) { a.curve[2].Y = "161/10" }})
	for _, moisture := range []api.Rat{"20001/1000", "11999/1000", "100", "-1", nines(600)} {
		expectErrors(t, "Time",
			fault{"from " + string(moisture), api.ErrRange, func(a *args) { a.wet = moisture }},
			fault{"from less than to", api.ErrOrder, func(a *args) { a.wet, a.target = "13", "131/10" }},
		)
		expectErrors(t, "Time", fault{"to " + string(moisture), api.ErrRange, func(a *args) { a.target = moisture }})
	}
	expectErrors(t, "Time", fault{"from less than to", api.ErrOrder, func(a *args) { a.wet = "129/10" }})
}

func TestTimeAgainstDefinition(t *testing.T) {
	r := rand.New(rand.NewSource(21))
	for i := range 1000 {
		digits := []int{1, 2, 5, 40, 140}[i%5]
		c := randomCurve(r, 6, digits)
		for k := range c {
			// From 90 on each Y is at least 5 below the one before.
			c[k].Y = ofBig(sub(randomRat(r, 5, digits), whole(10*k-90)))
		}
		first, last := toBig(c[0].Y), toBig(c[len(c)-1].Y)
		moistures := []*big.Rat{add(last, mul(randomRat(r, 1, digits), sub(first, last))), add(last, mul(randomRat(r, 1, digits), sub(first, last)))}
		if r.Intn(3) == 0 {
			moistures[r.Intn(2)] = toBig(c[r.Intn(len(c))].Y)
		}
		slices.SortFunc(moistures, (*big.Rat).Cmp)
		to, e := result(moistures[0])
		from, e2 := result(moistures[1])
		if e != api.OK || e2 != api.OK {
			continue
		}
		want, wanted := result(sub(placesOf(c, moistures[0])[0], placesOf(c, moistures[1])[0]))
		got, e := dry.Time(c, from, to)
		expect(t, fmt.Sprint("Time ", c, from, to), []any{got, e}, []any{want, wanted})
	}
}

// matterOf returns the dry matter of a mass.
func matterOf(mass int, moisture *big.Rat) *big.Rat {
	return div(mul(whole(mass), sub(whole(100), moisture)), whole(100))
}

// wetMass returns the mass that has this dry matter at a moisture.
func wetMass(matter, moisture *big.Rat) *big.Rat {
	return div(mul(matter, whole(100)), sub(whole(100), moisture))
}

func TestShrink(t *testing.T) {
	for _, row := range []struct {
		mass           int
		from, to, want api.Rat
	}{
		{1000, "20", "14", "3000/43"}, {1000, "20", "20", "0"}, {1000, "20", "0", "200"}, {1, "0", "0", "0"}, {api.MaxMass, "50", "0", "999999999/2"},
		{1, "99", "0", "99/100"}, {7, "1/3", "1/4", ofBig(sub(whole(7), wetMass(matterOf(7, big.NewRat(1, 3)), big.NewRat(1, 4))))},
		{5, api.Rat("99" + nines(598) + "/" + power(598)), api.Rat("99" + nines(598) + "/" + power(598)), "0"},
	} {
		expect(t, fmt.Sprint("Shrink ", row), ok[api.Rat](t, "Shrink")(dry.Shrink(row.mass, row.from, row.to)), row.want)
	}
	a, e := dry.Shrink(3, "1/"+nines(599), "0")
	expect(t, "Shrink with a long denominator", []any{a, e}, []any{api.Rat(""), api.ErrLarge})
}

func TestDry(t *testing.T) {
	for _, row := range []struct {
		mass     int
		from, to api.Rat
		want     int
		moisture api.Rat
	}{
		{1000, "20", "14", 931, "13100/931"}, {1000, "20", "0", 800, "0"}, {1000, "20", "20", 1000, "20"},
		{1, "99", "0", 1, "99"}, {1, "99", "1/2", 1, "99"}, {api.MaxMass, "0", "0", api.MaxMass, "0"},
		{100, "50", "0", 50, "0"}, {101, "50", "0", 51, "50/51"}, {3, "1/3", "1/3", 3, "1/3"},
		{1000, "20", api.Rat("1/" + nines(600)), 801, "100/801"},
	} {
		mass, moisture, e := dry.Dry(row.mass, row.from, row.to)
		expect(t, fmt.Sprint("Dry ", row), []any{mass, moisture, e}, []any{row.want, row.moisture, api.OK})
	}
	mass, moisture, e := dry.Dry(1000, "1/"+nines(600), "0")
	expect(t, "Dry of a long moisture that stays", []any{mass, moisture, e}, []any{1000, "1/" + nines(600), api.OK})
	mass, moisture, e = dry.Dry(1001, "1001/"+power(599), "0")
	expect(t, "Dry of a long moisture that stays", []any{mass, moisture, e}, []any{1001, "1001/" + power(599), api.OK})
	// Of 1001 kilograms at 9.99.. percent 901 are left, so that the denominator is multiplied by 901.
	mass, moisture, e = dry.Dry(1001, nines(600)+"/"+power(599), "0")
	expect(t, "Dry with too long a moisture", []any{mass, moisture, e}, []any{0, api.Rat(""), api.ErrLarge})
}

func TestSteps(t *testing.T) {
	for _, row := range []struct {
		mass      int
		from      api.Rat
		targets   []api.Rat
		masses    []int
		moistures []api.Rat
	}{
		{1000, "20", []api.Rat{"17", "14"}, []int{964, 931}, []api.Rat{"4100/241", "13100/931"}},
		{1000, "20", []api.Rat{"14"}, []int{931}, []api.Rat{"13100/931"}},
		{1000, "20", nil, nil, nil},
		{1000, "20", []api.Rat{"20", "20", "0", "0"}, []int{1000, 1000, 800, 800}, []api.Rat{"20", "20", "0", "0"}},
		// What is left at 14.07 percent can be dried to any moisture up to that one, and stays the same.
		{1000, "20", []api.Rat{"14", "13100/931", "281/20", "14"}, []int{931, 931, 931, 931}, slices.Repeat([]api.Rat{"13100/931"}, 4)},
	} {
		masses, moistures, e := dry.Steps(row.mass, row.from, row.targets)
		expect(t, "Steps", e, api.OK)
		expectList(t, fmt.Sprint("Steps ", row), masses, row.masses)
		expectList(t, fmt.Sprint("Steps ", row), moistures, row.moistures)
	}
	masses, moistures, e := dry.Steps(1000, "20", slices.Repeat([]api.Rat{"14"}, api.MaxList))
	expect(t, "the most steps", []any{len(masses), len(moistures), e}, []any{api.MaxList, api.MaxList, api.OK})
}

func TestErrorsOfMasses(t *testing.T) {
	for _, name := range []string{"Shrink", "Dry", "Steps", "Energy"} {
		for _, mass := range []int{0, -1, api.MaxMass + 1, math.MinInt, math.MaxInt} {
			expectErrors(t, name,
				fault{fmt.Sprint("a mass of ", mass), api.ErrRange, func(a *args) { a.mass = mass }},
				fault{"a moisture that is no number", api.ErrForm, func(a *args) { a.wet = "?" }},
			)
		}
	}
}

func TestErrorsOfMoistures(t *testing.T) {
	names := []string{"Shrink", "Dry", "Energy"}
	expectNumberErrors(t, func(a *args) *api.Rat { return &a.wet }, append(names, "Steps")...)
	expectNumberErrors(t, func(a *args) *api.Rat { return &a.target }, names...)
	for _, moisture := range []api.Rat{"100", "-1/1000", "1001/10", nines(600), "-5"} {
		expectErrors(t, "Steps", fault{"a moisture of " + string(moisture), api.ErrRange, func(a *args) { a.wet = moisture }})
		for _, name := range names {
			expectErrors(t, name,
				fault{"a moisture of " + string(moisture), api.ErrRange, func(a *args) { a.wet = moisture }},
				fault{"a target that is no number", api.ErrForm, func(a *args) { a.target = "?" }},
			)
			expectErrors(t, name,
				fault{"a target of " + string(moisture), api.ErrRange, func(a *args) { a.target = moisture }},
				fault{"a target above the moisture", api.ErrOrder, func(a *args) { a.wet = "129/10" }},
			)
		}
	}
}

func TestErrorsOfSteps(t *testing.T) {
	expectErrors(t, "Steps",
		fault{"no mass", api.ErrRange, func(a *args) { a.mass = 0 }},
		fault{"a bad moisture", api.ErrForm, func(a *args) { a.wet = "?" }},
		fault{"too many targets", api.ErrMany, func(a *args) { a.targets = slices.Repeat([]api.Rat{"?"}, api.MaxList+1) }},
		fault{"a bad target", api.ErrLarge, func(a *args) { a.targets[0] = nines(601) }},
		fault{"a target that is no moisture", api.ErrRange, func(a *args) { a.targets[1] = "100" }},
		fault{"a third target that is bad", api.ErrForm, func(a *args) { a.targets = append(a.targets, "?") }},
	)
	expectErrors(t, "Steps",
		fault{"too many good targets", api.ErrMany, func(a *args) { a.targets = slices.Repeat([]api.Rat{"14"}, api.MaxList+1) }})
	expectErrors(t, "Steps",
		fault{"a target above the moisture", api.ErrOrder, func(a *args) { a.targets[0] = "1801/100" }},
		fault{"a bad target behind it", api.ErrForm, func(a *args) { a.targets[1] = "?" }},
	)
	// From 18 to 17 percent 1000 kilograms become 988 with 4200/247, about 17.004 percent.
	expectErrors(t, "Steps", fault{"a target above what is left", api.ErrOrder, func(a *args) { a.targets[1] = "3401/200" }})
	masses, moistures, e := dry.Steps(1000, "18", []api.Rat{"17", "17004/1000"})
	expect(t, "Steps to a text that is no number", []any{len(masses), len(moistures), e}, []any{0, 0, api.ErrForm})
	masses, moistures, e = dry.Steps(1000, "18", []api.Rat{"17", "4251/250"})
	expect(t, "Steps to a little less than what is left", []any{masses, moistures, e}, []any{[]int{988, 988}, []api.Rat{"4200/247", "4200/247"}, api.OK})
	long := nines(600) + "/" + power(599)
	masses, moistures, e = dry.Steps(1001, long, []api.Rat{long, "0", "0"})
	expect(t, "Steps whose last moisture is too long", []any{len(masses), len(moistures), e}, []any{0, 0, api.ErrLarge})
	masses, moistures, e = dry.Steps(1001, long, []api.Rat{long})
	expect(t, "Steps with a long moisture", []any{masses, moistures, e}, []any{[]int{1001}, []api.Rat{long}, api.OK})
}

func TestDryingAgainstDefinition(t *testing.T) {
	r := rand.New(rand.NewSource(22))
	codes := map[api.Errno]int{}
	for i := range 2000 {
		digits := []int{1, 2, 3, 60, 290, 597}[i%6]
		mass := 1 + r.Intn([]int{3, 50, 5000, api.MaxMass}[r.Intn(4)])
		from := randomRat(r, 100, digits)
		to := mul(from, randomRat(r, 1, min(digits, 5)))
		if _, e := result(to); e != api.OK {
			to = new(big.Rat)
		}
		what := fmt.Sprint(mass, " ", from.RatString(), " ", to.RatString())
		matter := matterOf(mass, from)
		left := wetMass(matter, to)

		want, wanted := result(sub(whole(mass), left))
		got, e := dry.Shrink(mass, ofBig(from), ofBig(to))
		expect(t, "Shrink "+what, []any{got, e}, []any{want, wanted})
		codes[e]++

		// The least whole mass is the wet one, or the first one above it.
		least := new(big.Int).Div(left.Num(), left.Denom())
		if !left.IsInt() {
			least.Add(least, big.NewInt(1))
		}
		wantMass := int(least.Int64())
		want, wanted = result(sub(whole(100), div(mul(matter, whole(100)), whole(wantMass))))
		if wanted != api.OK {
			wantMass = 0
		}
		gotMass, got, e := dry.Dry(mass, ofBig(from), ofBig(to))
		expect(t, "Dry "+what, []any{gotMass, got, e}, []any{wantMass, want, wanted})
		codes[e]++
		if e == api.OK {
			moisture := toBig(got)
			expect(t, "the dry matter "+what, matterOf(gotMass, moisture).RatString(), matter.RatString())
			expect(t, "the moisture "+what, []bool{moisture.Cmp(to) >= 0, moisture.Cmp(from) <= 0}, []bool{true, true})
		}
	}
	if codes[api.OK] < 500 || codes[api.ErrLarge] < 100 {
		t.Errorf("errors: %v", codes)
	}
}

// TestStepsAreDryings checks that each step is what Dry makes of the step before.
func TestStepsAreDryings(t *testing.T) {
	r := rand.New(rand.NewSource(23))
	done, refused := 0, 0
	for range 1000 {
		mass, from := 1+r.Intn(3000), ofBig(randomRat(r, 100, 2))
		var targets []api.Rat
		target := toBig(from)
		for range r.Intn(6) {
			target = mul(target, add(big.NewRat(2, 3), randomRat(r, 1, 2)))
			target = lesser(target, whole(99))
			targets = append(targets, ofBig(target))
		}
		masses, moistures, e := dry.Steps(mass, from, targets)
		wantMass, want, wanted := mass, from, api.OK
		for i, to := range targets {
			wantMass, want, wanted = dry.Dry(wantMass, want, to)
			if wanted != api.OK {
				break
			}
			if e == api.OK {
				expect(t, fmt.Sprint("Steps ", mass, from, targets), []any{masses[i], moistures[i]}, []any{wantMass, want})
			}
		}
		expect(t, fmt.Sprint("Steps ", mass, from, targets), e, wanted)
		if e == api.OK {
			done++
			expect(t, "the number of steps", []int{len(masses), len(moistures)}, []int{len(targets), len(targets)})
		} else {
			refused++
		}
	}
	if done < 200 || refused < 200 {
		t.Errorf("%d are done, %d are refused", done, refused)
	}
}
