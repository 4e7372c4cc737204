package dry_test

import (
	"fmt"
	"math"
	"math/big"
	"math/rand"
	"slices"
	"testing"

	"bushel/api"
	"bushel/dry"
)

// P6.7, P2 and P6: what follows from the other promises, and what holds for all functions.

func TestAreasOfPartsAddUp(t *testing.T) {
	r := rand.New(rand.NewSource(71))
	for i := range 500 {
		c := randomCurve(r, 8, 1+i%3)
		first, last := toBig(c[0].X), toBig(c[len(c)-1].X)
		ends := []*big.Rat{first, last}
		for range r.Intn(4) {
			ends = append(ends, add(first, mul(randomRat(r, 1, 2), sub(last, first))))
		}
		slices.SortFunc(ends, (*big.Rat).Cmp)
		sum := new(big.Rat)
		for k, to := range ends[1:] {
			sum = add(sum, toBig(ok[api.Rat](t, "Area")(dry.Area(c, ofBig(ends[k]), ofBig(to)))))
		}
		expect(t, fmt.Sprint("Area ", c, ends), ok[api.Rat](t, "Area")(dry.Area(c, ofBig(first), ofBig(last))), ofBig(sum))
	}
}

// randomSteps returns a mass, a moisture, and targets that fall.
func randomSteps(r *rand.Rand) (int, api.Rat, []api.Rat) {
	moistures := []*big.Rat{}
	for range 1 + r.Intn(6) {
		moistures = append(moistures, randomRat(r, 40, 2))
	}
	slices.SortFunc(moistures, func(a, b *big.Rat) int { return b.Cmp(a) })
	var l []api.Rat
	for _, m := range moistures {
		l = append(l, ofBig(m))
	}
	return 1 + r.Intn([]int{5, 100, 5000, api.MaxMass}[r.Intn(4)]), l[0], l[1:]
}

func TestDryingInStepsIsDryingAtOnce(t *testing.T) {
	r := rand.New(rand.NewSource(72))
	bands := append(exampleBands(), api.Band{Low: "30", High: "41", Heat: "7/3"})
	for range 1000 {
		mass, from, targets := randomSteps(r)
		what := fmt.Sprint(mass, from, targets)
		masses, moistures, e := dry.Steps(mass, from, targets)
		expect(t, "Steps "+what, e, api.OK)
		if len(targets) == 0 {
			continue
		}
		last := len(targets) - 1
		lastMass, lastMoisture, e := dry.Dry(mass, from, targets[last])
		expect(t, "Dry "+what, []any{lastMass, lastMoisture, e}, []any{masses[last], moistures[last], api.OK})

		sum, stepMass, stepFrom := new(big.Rat), mass, from
		for i, to := range moistures {
			expect(t, "the dry matter "+what, matterOf(masses[i], toBig(to)).RatString(), matterOf(mass, toBig(from)).RatString())
			sum = add(sum, toBig(ok[api.Rat](t, "Energy")(dry.Energy(bands, stepMass, stepFrom, to))))
			stepMass, stepFrom = masses[i], to
		}
		expect(t, "the heats "+what, ok[api.Rat](t, "Energy")(dry.Energy(bands, mass, from, lastMoisture)), ofBig(sum))
	}
}

// TestShrinkIsWaterOfEnergy checks Shrink against the heat in one band in which a kilogram of water needs 1.
func TestShrinkIsWaterOfEnergy(t *testing.T) {
	r := rand.New(rand.NewSource(73))
	for range 500 {
		mass, from, targets := randomSteps(r)
		bands := []api.Band{{Low: "0", High: "20", Heat: "1"}, {Low: "20", High: "99", Heat: "1"}}
		for _, to := range targets {
			water := ok[api.Rat](t, "Energy")(dry.Energy(bands, mass, from, to))
			expect(t, fmt.Sprint("Shrink ", mass, from, to), ok[api.Rat](t, "Shrink")(dry.Shrink(mass, from, to)), water)
		}
	}
}

// isIn reports whether a number is in a span.
func isIn(s api.Span, n *big.Rat) bool { return n.Cmp(toBig(s.Low)) >= 0 && n.Cmp(toBig(s.High)) <= 0 }

// TestFrontContainsEveryChoice checks fronts with random speeds.
func TestFrontContainsEveryChoice(t *testing.T) {
	r := rand.New(rand.NewSource(74))
	for range 500 {
		a := randomAerated(r, 14, 2)
		places, through := a.front(t), a.through(t)
		for i := 1; i < len(places); i++ {
			isBack := compare(places[i].Low, places[i-1].Low) < 0 || compare(places[i].High, places[i-1].High) < 0
			expect(t, fmt.Sprint("the front goes back ", a, places), isBack, false)
		}
		low, width := toBig(a.speed.Low), sub(toBig(a.speed.High), toBig(a.speed.Low))
		for range 5 {
			one := rise(a, func() *big.Rat { return add(low, mul(width, big.NewRat(r.Int63n(5), 4))) })
			for i, place := range one {
				expect(t, fmt.Sprint("the front contains ", a, place), isIn(places[i], place), true)
			}
			at := firstAt(one, a.depth)
			isEarly := at >= 0 && (through[0] < 0 || at < through[0])
			isLate := through[1] >= 0 && (at < 0 || at > through[1])
			expect(t, fmt.Sprint("a front is through before or behind ", a, through, at), []bool{isEarly, isLate}, []bool{false, false})
		}
		for i, place := range places {
			mayBe, isSure := through[0] >= 0 && i >= through[0], through[1] >= 0 && i >= through[1]
			expect(t, fmt.Sprint("Through ", a, places), []bool{mayBe, isSure}, []bool{place.High == a.depth, place.Low == a.depth})
		}
	}
}

// TestZonesLieAboveEachOther checks that there are no gaps between the bottom and the depth.
func TestZonesLieAboveEachOther(t *testing.T) {
	r := rand.New(rand.NewSource(75))
	for range 500 {
		a := randomAerated(r, 14, 2)
		zones := a.zones(t)
		what := fmt.Sprint("Zones ", a, zones)
		expect(t, what, zones[0].Bottom, span("0", "0"))
		for i, z := range zones {
			expect(t, what, compare(z.Bottom.Low, z.Top.Low) <= 0 && compare(z.Bottom.High, z.Top.High) <= 0, true)
			expect(t, what, i == 0 || z.Bottom == zones[i-1].Top && z.Kind != zones[i-1].Kind, true)
			expect(t, what, z.Kind == "old" && i < len(zones)-1, false)
		}
		// The last zone is what was old, or those above it are surely at the depth.
		expect(t, what, zones[len(zones)-1].Top, span(a.depth, a.depth))
	}
}

// TestHotDoesNotDependOnOtherSensors checks the alarms of each sensor alone.
func TestHotDoesNotDependOnOtherSensors(t *testing.T) {
	r := rand.New(rand.NewSource(76))
	for range 500 {
		l, w := randomReadings(r)
		all := ok[[]api.Alarm](t, "Alarms")(dry.Alarms(l, w))
		for sensor := range l[0] {
			var column [][]int
			for _, row := range l {
				column = append(column, []int{row[sensor]})
			}
			var own []api.Alarm
			for _, a := range all {
				if a.Sensor == sensor && a.Kind != "spot" {
					own = append(own, api.Alarm{Time: a.Time, Kind: a.Kind})
				}
			}
			expectList(t, fmt.Sprint("Alarms ", l, w, sensor), ok[[]api.Alarm](t, "Alarms")(dry.Alarms(column, w)), own)
		}
	}
}

// TestArgumentsStayAsTheyAre checks that no function changes its arguments, nor the room behind them, and that each one returns the same results again.
func TestArgumentsStayAsTheyAre(t *testing.T) {
	for name, f := range calls() {
		a := goodArgs()
		a.curve, a.targets, a.bands, a.hours, a.readings = roomy(a.curve), roomy(a.targets), roomy(a.bands), roomy(a.hours), roomy(a.readings)
		for i := range a.readings {
			a.readings[i] = roomy(a.readings[i])
		}
		before := copyOf(a)
		first, e := f(a)
		expect(t, name, e, api.OK)
		second, _ := f(a)
		expect(t, name+" again", second, first)
		for _, x := range first {
			spoil(x)
		}
		third, _ := f(before)
		expect(t, name+": the arguments", a, before)
		expect(t, name+": another result", second, third)
		isEmpty := isRoomEmpty(a.curve) && isRoomEmpty(a.targets) && isRoomEmpty(a.bands) && isRoomEmpty(a.hours)
		for _, row := range a.readings {
			isEmpty = isEmpty && isRoomEmpty(row)
		}
		isEmpty = isEmpty && !slices.ContainsFunc(a.readings[len(a.readings):cap(a.readings)], func(row []int) bool { return row != nil })
		expect(t, name+": the room behind arguments", isEmpty, true)
	}
}

// roomy returns a copy of a list with room behind it.
func roomy[T any](l []T) []T { return append(make([]T, 0, len(l)+9), l...) }

// isRoomEmpty reports whether nothing is in the room behind a list.
func isRoomEmpty[T comparable](l []T) bool {
	var zero T
	return !slices.ContainsFunc(l[len(l):cap(l)], func(x T) bool { return x != zero })
}

// spoil overwrites a result.
func spoil(x any) {
	switch x := x.(type) {
	case []int:
		fill(x, -99)
	case []api.Rat:
		fill(x, "spoilt")
	case []api.Span:
		fill(x, span("spoilt", "spoilt"))
	case []api.Zone:
		fill(x, api.Zone{Kind: "spoilt"})
	case []api.Alarm:
		fill(x, api.Alarm{Kind: "spoilt"})
	}
}

// fill overwrites a list.
func fill[T any](l []T, x T) {
	for i := range l {
		l[i] = x
	}
}

// disturb makes one of the arguments any value.
func disturb(r *rand.Rand, a *args) {
	n := []int{math.MinInt, -1, 0, 1, 2, 64, 65, 1000, 1001, math.MaxInt}[r.Intn(10)]
	text := []api.Rat{"", "0", "-1", "1", "100", "1/3", "2/6", nines(600), nines(601), "-" + nines(600), "1/" + nines(600), "x", "15", "99"}[r.Intn(14)]
	length := []int{0, 1, 2, 64, 65, 256, 257, 1000, 1001}[r.Intn(9)]
	changes := []func(){
		func() { a.curve = make([]api.Point, length) }, func() { a.curve[r.Intn(3)].X = text }, func() { a.curve[r.Intn(3)].Y = text },
		func() { a.x, a.y = text, text }, func() { a.from = text }, func() { a.to = text }, func() { a.mass = n }, func() { a.wet = text }, func() { a.target = text },
		func() { a.targets = slices.Repeat([]api.Rat{text}, length) }, func() { a.targets = append(a.targets, text) },
		func() { a.bands = make([]api.Band, length) }, func() { a.bands[r.Intn(2)].Low = text }, func() { a.bands[r.Intn(2)].High = text }, func() { a.bands[r.Intn(2)].Heat = text },
		func() { a.hours = make([]api.Hour, length) }, func() { a.hours[r.Intn(4)].Temperature = n }, func() { a.hours[r.Intn(4)].Humidity = n },
		func() { a.hour = api.Hour{Temperature: n, Humidity: n} }, func() { a.climate.Cold = n }, func() { a.climate.Warm = n }, func() { a.climate.Dry = n }, func() { a.climate.Damp = n },
		func() { a.need, a.length = n, n }, func() { a.speed.Low = text }, func() { a.speed.High = text }, func() { a.depth = text },
		func() { a.readings = make([][]int, length) }, func() { a.readings[r.Intn(2)] = make([]int, length) }, func() { a.readings[r.Intn(2)][r.Intn(3)] = n },
		func() { a.readings = rows(max(1, length%1001), 64, 0) },
		func() { a.watch.Above = n }, func() { a.watch.Rise = n }, func() { a.watch.Within = n }, func() { a.watch.Over = n },
	}
	changes[r.Intn(len(changes))]()
}

// TestAllArguments checks that all functions return for arguments of any form.
func TestAllArguments(t *testing.T) {
	r := rand.New(rand.NewSource(77))
	codes := map[api.Errno]int{}
	for range 3000 {
		a := goodArgs()
		for range r.Intn(4) {
			func() {
				// Some changes need what others have removed.
				defer func() { _ = recover() }()
				disturb(r, &a)
			}()
		}
		for name, f := range calls() {
			_, e := f(a)
			codes[e]++
			if e != api.OK {
				expectError(t, name, name, a, e)
			}
		}
	}
	for _, e := range []api.Errno{api.OK, api.ErrForm, api.ErrShape, api.ErrRange, api.ErrLarge, api.ErrMany, api.ErrNone, api.ErrOrder} {
		if codes[e] == 0 {
			t.Errorf("no function returned the error %d", e)
		}
	}
	for name, f := range calls() {
		_, e := f(args{})
		if e == api.OK && name != "CheckHours" && name != "CheckClimate" && name != "Suits" && name != "Fans" {
			t.Errorf("%s of nothing has no error", name)
		}
	}
}
