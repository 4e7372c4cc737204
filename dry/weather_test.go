package dry_test

import (
	"fmt"
	"math"
	"math/rand"
	"slices"
	"testing"

	"bushel/api"
	"bushel/dry"
)

// P6.4: weather.

// farTemperatures and farHumidities are integers that are none.
func farTemperatures() []int { return []int{-601, 1001, math.MinInt, math.MaxInt} }
func farHumidities() []int   { return []int{-1, 101, math.MinInt, math.MaxInt} }

func TestCheckHours(t *testing.T) {
	most := slices.Repeat([]api.Hour{{Temperature: -600, Humidity: 0}, {Temperature: 1000, Humidity: 100}}, api.MaxHours/2)
	for what, l := range map[string][]api.Hour{"no hours": nil, "the example": exampleHours(), "the most hours": most} {
		expect(t, what, dry.CheckHours(l), api.OK)
	}
	bad := api.Hour{Temperature: 1001}
	expect(t, "too many hours", dry.CheckHours(append(most, api.Hour{})), api.ErrMany)
	expect(t, "too many bad hours", dry.CheckHours(slices.Repeat([]api.Hour{bad}, api.MaxHours+1)), api.ErrMany)
	for _, temperature := range farTemperatures() {
		expectErrors(t, "CheckHours", fault{"a far temperature", api.ErrRange, func(a *args) { a.hours[3].Temperature = temperature }})
		expectErrors(t, "Suits", fault{"a far temperature", api.ErrRange, func(a *args) { a.hour.Temperature = temperature }})
	}
	for _, humidity := range farHumidities() {
		expectErrors(t, "CheckHours", fault{"a far humidity", api.ErrRange, func(a *args) { a.hours[3].Humidity = humidity }})
		expectErrors(t, "Suits", fault{"a far humidity", api.ErrRange, func(a *args) { a.hour.Humidity = humidity }})
	}
}

func TestCheckClimate(t *testing.T) {
	for _, c := range []api.Climate{{}, exampleClimate(), {Cold: -600, Warm: 1000, Dry: 0, Damp: 100}, {Cold: 7, Warm: 7, Dry: 9, Damp: 9}} {
		expect(t, fmt.Sprint(c), dry.CheckClimate(c), api.OK)
	}
	for _, name := range []string{"CheckClimate", "Suits", "Fans", "Window", "Front", "Through", "Zones"} {
		for _, temperature := range farTemperatures() {
			expectErrors(t, name, fault{"a far Cold", api.ErrRange, func(a *args) { a.climate.Cold = temperature }})
			expectErrors(t, name, fault{"a far Warm", api.ErrRange, func(a *args) { a.climate.Warm = temperature }})
		}
		for _, humidity := range farHumidities() {
			expectErrors(t, name, fault{"a far Dry", api.ErrRange, func(a *args) { a.climate.Dry = humidity }})
			expectErrors(t, name, fault{"a far Damp", api.ErrRange, func(a *args) { a.climate.Damp = humidity }})
			// The numbers come ahead of their order.
			expectErrors(t, name,
				fault{"a far Damp", api.ErrRange, func(a *args) { a.climate.Damp = humidity }},
				fault{"Cold above Warm", api.ErrOrder, func(a *args) { a.climate.Cold = 61 }},
			)
		}
		expectErrors(t, name, fault{"Dry above Damp", api.ErrOrder, func(a *args) { a.climate.Dry = 71 }})
	}
}

// weatherFaults are the errors of hours and a climate in their order.
func weatherFaults() []fault {
	return []fault{
		{"too many hours", api.ErrMany, func(a *args) { a.hours = make([]api.Hour, api.MaxHours+1) }},
		{"a bad hour", api.ErrRange, func(a *args) { a.hours[3].Humidity, a.hour.Humidity = 101, 101 }},
		{"Cold above Warm", api.ErrOrder, func(a *args) { a.climate.Cold = 61 }},
	}
}

func TestErrorsOfWeather(t *testing.T) {
	need := fault{"a negative need", api.ErrRange, func(a *args) { a.need = -1 }}
	length := fault{"a length of 0", api.ErrRange, func(a *args) { a.length = 0 }}
	expectErrors(t, "Suits", weatherFaults()[1:]...)
	expectErrors(t, "Fans", append(weatherFaults(), need)...)
	expectErrors(t, "Window", append(weatherFaults(), length)...)
	for _, n := range []int{-1, -2, math.MinInt} {
		expectErrors(t, "Fans", fault{fmt.Sprint("a need of ", n), api.ErrRange, func(a *args) { a.need = n }})
		expectErrors(t, "Window", fault{fmt.Sprint("a length of ", n), api.ErrRange, func(a *args) { a.length = n }})
	}
	expectErrors(t, "Window", length)
	for _, n := range []int{4, 5, math.MaxInt} {
		expectErrors(t, "Fans", fault{fmt.Sprint("a need of ", n), api.ErrNone, func(a *args) { a.need = n }})
	}
	for _, n := range []int{3, 4, 5, math.MaxInt} {
		expectErrors(t, "Window", fault{fmt.Sprint("a length of ", n), api.ErrNone, func(a *args) { a.length = n }})
	}
	expectErrors(t, "Fans", fault{"no hours", api.ErrNone, func(a *args) { a.hours = nil }})
	expectErrors(t, "Window", fault{"no hours", api.ErrNone, func(a *args) { a.hours = nil }})
}

func TestSuits(t *testing.T) {
	c := api.Climate{Cold: -10, Warm: 60, Dry: 20, Damp: 70}
	for _, row := range []struct {
		temperature, humidity int
		want                  bool
	}{
		{-10, 20, true}, {60, 70, true}, {-10, 70, true}, {60, 20, true}, {25, 45, true},
		{-11, 45, false}, {61, 45, false}, {25, 19, false}, {25, 71, false}, {61, 71, false}, {-600, 0, false}, {1000, 100, false},
	} {
		h := api.Hour{Temperature: row.temperature, Humidity: row.humidity}
		expect(t, fmt.Sprint("Suits ", h), ok[bool](t, "Suits")(dry.Suits(h, c)), row.want)
	}
}

func TestFans(t *testing.T) {
	equal := weather("gbggbg")
	equal[3].Temperature = 29
	for _, row := range []struct {
		l    []api.Hour
		need int
		want []int
	}{
		{exampleHours(), 0, nil}, {exampleHours(), 1, []int{3}}, {exampleHours(), 2, []int{2, 3}}, {exampleHours(), 3, []int{0, 2, 3}},
		{nil, 0, nil}, {weather("bbb"), 0, nil},
		{equal, 1, []int{3}}, {equal, 2, []int{0, 3}}, {equal, 3, []int{0, 2, 3}}, {equal, 4, []int{0, 2, 3, 5}},
	} {
		l, e := dry.Fans(row.l, exampleClimate(), row.need)
		expect(t, "Fans", e, api.OK)
		expectList(t, fmt.Sprint("Fans ", row.l, row.need), l, row.want)
	}
	l, e := dry.Fans(slices.Repeat(weather("g"), api.MaxHours), exampleClimate(), api.MaxHours)
	expect(t, "Fans in all of the most hours", []any{len(l), e}, []any{api.MaxHours, api.OK})
}

func TestWindow(t *testing.T) {
	for _, row := range []struct {
		pattern      string
		length, want int
	}{
		{"gbgg", 2, 2}, {"gbgg", 1, 0}, {"bg", 1, 1}, {"ggg", 3, 0}, {"bggbggg", 3, 4}, {"bggbggg", 2, 1}, {"gggg", 2, 0}, {"gbgbg", 1, 0}, {"bbbg", 1, 3},
	} {
		expect(t, fmt.Sprint("Window ", row), ok[int](t, "Window")(dry.Window(weather(row.pattern), exampleClimate(), row.length)), row.want)
	}
	expect(t, "Window of all of the most hours", ok[int](t, "Window")(dry.Window(slices.Repeat(weather("g"), api.MaxHours), exampleClimate(), api.MaxHours)), 0)
}

// randomHours returns hours that often have equal temperatures, and a climate that some of them suit.
func randomHours(r *rand.Rand) ([]api.Hour, api.Climate) {
	var l []api.Hour
	for range r.Intn(12) {
		l = append(l, api.Hour{Temperature: r.Intn(8) - 2, Humidity: 40 + r.Intn(6)})
	}
	cold, damp := r.Intn(4)-2, r.Intn(6)
	return l, api.Climate{Cold: cold, Warm: cold + r.Intn(6), Dry: 40 + r.Intn(damp+1), Damp: 40 + damp}
}

func TestWeatherAgainstDefinition(t *testing.T) {
	r := rand.New(rand.NewSource(41))
	windows := 0
	for range 3000 {
		l, c := randomHours(r)
		what := fmt.Sprint(l, c)
		var good []int
		for i, h := range l {
			is := h.Temperature >= c.Cold && h.Temperature <= c.Warm && h.Humidity >= c.Dry && h.Humidity <= c.Damp
			expect(t, "Suits "+what, ok[bool](t, what)(dry.Suits(h, c)), is)
			if is {
				good = append(good, i)
			}
		}
		need := r.Intn(len(good) + 2)
		fans, e := dry.Fans(l, c, need)
		if need > len(good) {
			expect(t, "Fans "+what, []any{len(fans), e}, []any{0, api.ErrNone})
		} else {
			expect(t, "Fans "+what, e, api.OK)
			expectList(t, fmt.Sprint("Fans ", what, need), fans, coolest(l, good, need))
		}
		length := 1 + r.Intn(3)
		want, wanted := 0, api.ErrNone
		for first := len(l) - length; first >= 0; first-- {
			if k := slices.Index(good, first); k >= 0 && k+length <= len(good) && good[k+length-1] == first+length-1 {
				want, wanted = first, api.OK
			}
		}
		first, e := dry.Window(l, c, length)
		expect(t, fmt.Sprint("Window ", what, length), []any{first, e}, []any{want, wanted})
		if want > 0 {
			windows++
		}
	}
	if windows < 100 {
		t.Errorf("only %d windows behind the first hour", windows)
	}
}

// coolest takes hours one by one, each time the first one of those with the lowest temperature.
func coolest(l []api.Hour, good []int, need int) []int {
	left := slices.Clone(good)
	var fans []int
	for range need {
		k := 0
		for i := range left {
			if l[left[i]].Temperature < l[left[k]].Temperature {
				k = i
			}
		}
		fans = append(fans, left[k])
		left = slices.Delete(left, k, k+1)
	}
	slices.Sort(fans)
	return fans
}
