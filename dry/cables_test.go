package dry_test

import (
	"fmt"
	"math"
	"math/rand"
	"slices"
	"testing"

	"bushel/api"
	"bushel/dry"
)

// P6.6: cables.

// rows returns so many rows of so many sensors with one temperature.
func rows(times, sensors, temperature int) [][]int {
	var l [][]int
	for range times {
		l = append(l, slices.Repeat([]int{temperature}, sensors))
	}
	return l
}

func TestCheckReadings(t *testing.T) {
	for what, l := range map[string][][]int{
		"the example": goodArgs().readings, "one reading": {{0}}, "the most readings": rows(api.MaxHours, api.MaxPoints, 1000), "the least temperatures": rows(2, 3, -600),
	} {
		expect(t, what, dry.CheckReadings(l), api.OK)
	}
}

func TestErrorsOfReadings(t *testing.T) {
	wide := make([]int, api.MaxPoints+1)
	for _, name := range []string{"CheckReadings", "Alarms", "Ranking"} {
		faults := []fault{
			{"no rows", api.ErrShape, func(a *args) { a.readings = nil }},
			{"an empty list of rows", api.ErrShape, func(a *args) { a.readings = [][]int{} }},
			{"too many rows", api.ErrMany, func(a *args) { a.readings = make([][]int, api.MaxHours+1) }},
			{"too many good rows", api.ErrMany, func(a *args) { a.readings = rows(api.MaxHours+1, 1, 0) }},
			{"a far temperature in the first row", api.ErrRange, func(a *args) { a.readings[0][1] = 1001 }},
			{"a second row that is empty", api.ErrShape, func(a *args) { a.readings[1] = nil }},
		}
		if name == "Alarms" {
			faults = append(faults, fault{"a bad watch", api.ErrRange, func(a *args) { a.watch.Rise = 0 }})
		}
		expectErrors(t, name, faults...)
		expectErrors(t, name, fault{"a row with too many sensors", api.ErrMany, func(a *args) { a.readings[0] = wide }})
		expectErrors(t, name, fault{"a second row with too many sensors", api.ErrMany, func(a *args) { a.readings[1] = wide }})
		expectErrors(t, name, fault{"a second row that is too short", api.ErrShape, func(a *args) { a.readings[1] = []int{1001, 2} }})
		expectErrors(t, name, fault{"a second row that is too long", api.ErrShape, func(a *args) { a.readings[1] = []int{1001, 2, 3, 4} }})
		expectErrors(t, name, fault{"an empty row alone", api.ErrShape, func(a *args) { a.readings = [][]int{{}} }})
		for _, temperature := range farTemperatures() {
			for sensor := range 3 {
				expectErrors(t, name, fault{"a far temperature", api.ErrRange, func(a *args) { a.readings[1][sensor] = temperature }})
			}
		}
	}
}

func TestCheckWatch(t *testing.T) {
	for _, w := range []api.Watch{{Above: -600, Rise: 1, Within: 1, Over: 1}, {Above: 1000, Rise: 2000, Within: api.MaxHours, Over: 2000}, goodArgs().watch} {
		expect(t, fmt.Sprint(w), dry.CheckWatch(w), api.OK)
	}
	for _, name := range []string{"CheckWatch", "Alarms"} {
		for _, n := range farTemperatures() {
			expectErrors(t, name, fault{fmt.Sprint("Above ", n), api.ErrRange, func(a *args) { a.watch.Above = n }})
		}
		for _, n := range []int{0, -1, 2001, math.MinInt, math.MaxInt} {
			expectErrors(t, name, fault{fmt.Sprint("Rise ", n), api.ErrRange, func(a *args) { a.watch.Rise = n }})
			expectErrors(t, name, fault{fmt.Sprint("Over ", n), api.ErrRange, func(a *args) { a.watch.Over = n }})
		}
		for _, n := range []int{0, -1, api.MaxHours + 1, math.MinInt, math.MaxInt} {
			expectErrors(t, name, fault{fmt.Sprint("Within ", n), api.ErrRange, func(a *args) { a.watch.Within = n }})
		}
	}
}

func TestAlarms(t *testing.T) {
	watch := goodArgs().watch
	for _, row := range []struct {
		l    [][]int
		w    api.Watch
		want []api.Alarm
	}{
		{goodArgs().readings, watch, []api.Alarm{{Time: 0, Sensor: 2, Kind: "hot"}, {Time: 0, Sensor: 2, Kind: "spot"}, {Time: 1, Sensor: 1, Kind: "rise"}, {Time: 1, Sensor: 2, Kind: "hot"}}},
		{[][]int{{150}}, watch, nil},
		{[][]int{{151}}, watch, []api.Alarm{{Kind: "hot"}}},
		// All kinds at once, and in their order.
		{[][]int{{0, 0}, {160, 120}}, watch, []api.Alarm{{Time: 1, Kind: "hot"}, {Time: 1, Kind: "rise"}, {Time: 1, Kind: "spot"}, {Time: 1, Sensor: 1, Kind: "rise"}}},
		// A rise by 30 within two rows, and one by 29.
		{[][]int{{70}, {90}, {100}}, watch, []api.Alarm{{Time: 2, Kind: "rise"}}},
		{[][]int{{71}, {90}, {100}}, watch, nil},
		{[][]int{{70}, {90}, {90}, {100}}, watch, nil},
		{[][]int{{70}, {100}, {70}, {99}, {100}}, watch, []api.Alarm{{Time: 1, Kind: "rise"}, {Time: 4, Kind: "rise"}}},
		{[][]int{{70}, {90}, {100}}, api.Watch{Above: 150, Rise: 30, Within: 1, Over: 40}, nil},
		{[][]int{{70}, {90}, {80}, {100}}, api.Watch{Above: 150, Rise: 30, Within: api.MaxHours, Over: 40}, []api.Alarm{{Time: 3, Kind: "rise"}}},
		// Spots at both ends and between two neighbours.
		{[][]int{{100, 60, 100, 60, 100}}, watch, []api.Alarm{{Sensor: 0, Kind: "spot"}, {Sensor: 2, Kind: "spot"}, {Sensor: 4, Kind: "spot"}}},
		{[][]int{{99, 60, 100, 61, 100}}, watch, nil},
		{[][]int{{-600, 1000}}, api.Watch{Above: 1000, Rise: 2000, Within: 1, Over: 1600}, []api.Alarm{{Sensor: 1, Kind: "spot"}}},
		{[][]int{{100}}, api.Watch{Above: 150, Rise: 1, Within: 1, Over: 1}, nil},
	} {
		expectList(t, fmt.Sprint("Alarms ", row.l, row.w), ok[[]api.Alarm](t, "Alarms")(dry.Alarms(row.l, row.w)), row.want)
	}
}

func TestTheMostAlarms(t *testing.T) {
	watch := goodArgs().watch
	l, e := dry.Alarms(rows(4, api.MaxPoints, 151), watch)
	expect(t, "256 alarms", []any{len(l), e}, []any{api.MaxList, api.OK})
	for what, l := range map[string][][]int{
		"257 alarms in rows":      append(rows(256, 1, 151), []int{151}),
		"257 alarms at the end":   append(rows(4, api.MaxPoints, 151), slices.Concat([]int{121}, slices.Repeat([]int{121}, 62), []int{151})),
		"two alarms of one":       append(rows(255, 1, 151), []int{0}, []int{151}),
		"by far too many of them": rows(api.MaxHours, api.MaxPoints, 1000),
	} {
		l, e := dry.Alarms(l, watch)
		expect(t, what, []any{len(l), e}, []any{0, api.ErrMany})
	}
	l, e = dry.Alarms(rows(api.MaxHours, api.MaxPoints, 1000), api.Watch{Above: 1000, Rise: 1, Within: api.MaxHours, Over: 1})
	expect(t, "no alarms of the most readings", []any{len(l), e}, []any{0, api.OK})
}

func TestRanking(t *testing.T) {
	for _, row := range []struct {
		l    [][]int
		want []int
	}{
		{goodArgs().readings, []int{2, 1, 0}}, {[][]int{{5}}, []int{0}}, {[][]int{{5, 7, 5, 7}}, []int{1, 3, 0, 2}},
		{[][]int{{9, 9, 1}, {5, 4, 3}, {8, 8, 8}}, []int{2, 1, 0}}, {[][]int{{5, 4, 3, 4}, {8, 8, 8, 8}}, []int{2, 1, 3, 0}},
		{[][]int{{9, 10, 11}, {8, 8, 8}}, []int{0, 1, 2}}, {[][]int{{9, 10, 9}, {8, 8, 9}}, []int{2, 0, 1}}, {[][]int{{-600, 0}, {-1, 0}}, []int{1, 0}},
	} {
		expectList(t, fmt.Sprint("Ranking ", row.l), ok[[]int](t, "Ranking")(dry.Ranking(row.l)), row.want)
	}
}

// randomReadings returns readings that are often equal, and a watch that some of them alarm.
func randomReadings(r *rand.Rand) ([][]int, api.Watch) {
	sensors := 1 + r.Intn(6)
	var l [][]int
	for range 1 + r.Intn(6) {
		var row []int
		for range sensors {
			row = append(row, r.Intn(8))
		}
		l = append(l, row)
	}
	return l, api.Watch{Above: 2 + r.Intn(5), Rise: 1 + r.Intn(6), Within: 1 + r.Intn(5), Over: 1 + r.Intn(6)}
}

// alarmsOf returns the alarms by their definition.
func alarmsOf(l [][]int, w api.Watch) []api.Alarm {
	var alarms []api.Alarm
	for time := range l {
		for sensor, temperature := range l[time] {
			isRisen, isSpot, neighbours := false, true, 0
			for other, row := range l {
				isRisen = isRisen || other < time && time-other <= w.Within && temperature-row[sensor] >= w.Rise
			}
			for other, its := range l[time] {
				if other == sensor-1 || other == sensor+1 {
					neighbours++
					isSpot = isSpot && temperature >= its+w.Over
				}
			}
			for _, row := range []struct {
				kind string
				is   bool
			}{{"hot", temperature > w.Above}, {"rise", isRisen}, {"spot", isSpot && neighbours > 0}} {
				if row.is {
					alarms = append(alarms, api.Alarm{Time: time, Sensor: sensor, Kind: row.kind})
				}
			}
		}
	}
	return alarms
}

func TestCablesAgainstDefinition(t *testing.T) {
	r := rand.New(rand.NewSource(61))
	kinds := map[string]int{}
	for range 3000 {
		l, w := randomReadings(r)
		alarms := ok[[]api.Alarm](t, "Alarms")(dry.Alarms(l, w))
		expectList(t, fmt.Sprint("Alarms ", l, w), alarms, alarmsOf(l, w))
		for _, a := range alarms {
			kinds[a.Kind]++
		}

		order := ok[[]int](t, "Ranking")(dry.Ranking(l))
		last, before := l[len(l)-1], l[len(l)-1]
		if len(l) > 1 {
			before = l[len(l)-2]
		}
		key := func(sensor int) []int { return []int{-last[sensor], before[sensor] - last[sensor], sensor} }
		isBefore := func(a, b int) bool { return slices.Compare(key(a), key(b)) < 0 }
		for i := range order {
			expect(t, fmt.Sprint("Ranking ", l, order), i == 0 || isBefore(order[i-1], order[i]), true)
		}
		expect(t, "the number of sensors", len(order), len(last))
	}
	for _, kind := range []string{"hot", "rise", "spot"} {
		if kinds[kind] < 1000 {
			t.Errorf("only %d alarms of the kind %s", kinds[kind], kind)
		}
	}
}
