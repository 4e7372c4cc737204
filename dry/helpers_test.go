package dry_test

import (
	"fmt"
	"math/big"
	"math/rand"
	"reflect"
	"slices"
	"strings"
	"testing"

	"bushel/api"
	"bushel/dry"
)

// expect reports a result that is not the expected one.
func expect(t *testing.T, what string, got, want any) {
	t.Helper()
	if !reflect.DeepEqual(got, want) {
		t.Errorf("%.400s: got %.300s, want %.300s", what, fmt.Sprint(got), fmt.Sprint(want))
	}
}

// expectList reports a list that is not the expected one; nil and empty lists are equal.
func expectList[T any](t *testing.T, what string, got, want []T) {
	t.Helper()
	if len(got) > 0 || len(want) > 0 {
		expect(t, what, got, want)
	}
}

// ok returns a result that has no error.
func ok[T any](t *testing.T, what string) func(T, api.Errno) T {
	return func(x T, e api.Errno) T {
		t.Helper()
		if e != api.OK {
			t.Fatalf("%.400s: error %d", what, e)
		}
		return x
	}
}

// nines returns the greatest number with so many digits.
func nines(digits int) api.Rat { return api.Rat(strings.Repeat("9", digits)) }

// power returns 1 with so many zeros behind it.
func power(zeros int) api.Rat { return "1" + api.Rat(strings.Repeat("0", zeros)) }

// span returns a span.
func span(low, high api.Rat) api.Span { return api.Span{Low: low, High: high} }

// toBig returns a number of math/big, which is the judge of these tests.
func toBig(a api.Rat) *big.Rat {
	r, ok := new(big.Rat).SetString(string(a))
	if !ok {
		panic("not a number: " + string(a))
	}
	return r
}

// ofBig returns a number as a text.
func ofBig(r *big.Rat) api.Rat { return api.Rat(r.RatString()) }

// result returns what a number is as a result, by the limit of digits.
func result(r *big.Rat) (api.Rat, api.Errno) {
	if len(new(big.Int).Abs(r.Num()).String()) > api.MaxDigits || len(r.Denom().String()) > api.MaxDigits {
		return "", api.ErrLarge
	}
	return ofBig(r), api.OK
}

// ratio returns a / b.
func ratio(a, b int) api.Rat { return ofBig(big.NewRat(int64(a), int64(b))) }

// whole returns an integer as a number.
func whole(n int) *big.Rat { return big.NewRat(int64(n), 1) }

// compare compares two numbers.
func compare(a, b api.Rat) int { return toBig(a).Cmp(toBig(b)) }

// add, sub, mul and div compute with numbers of math/big.
func add(a, b *big.Rat) *big.Rat { return new(big.Rat).Add(a, b) }
func sub(a, b *big.Rat) *big.Rat { return new(big.Rat).Sub(a, b) }
func mul(a, b *big.Rat) *big.Rat { return new(big.Rat).Mul(a, b) }
func div(a, b *big.Rat) *big.Rat { return new(big.Rat).Quo(a, b) }

// lesser returns the lesser one of two numbers.
func lesser(a, b *big.Rat) *big.Rat {
	if a.Cmp(b) < 0 {
		return a
	}
	return b
}

// greater returns the greater one of two numbers.
func greater(a, b *big.Rat) *big.Rat {
	if a.Cmp(b) > 0 {
		return a
	}
	return b
}

// randomRat returns a number from 0 to below most with at most so many digits behind the whole part.
func randomRat(r *rand.Rand, most int, digits int) *big.Rat {
	bottom := new(big.Int).Rand(r, new(big.Int).Exp(big.NewInt(10), big.NewInt(int64(digits)), nil))
	bottom.Add(bottom, big.NewInt(1))
	top := new(big.Int).Rand(r, new(big.Int).Mul(bottom, big.NewInt(int64(most))))
	return new(big.Rat).SetFrac(top, bottom)
}

// badNumbers are texts that are not numbers, with their errors.
func badNumbers() map[api.Rat]api.Errno {
	return map[api.Rat]api.Errno{
		"": api.ErrForm, "x": api.ErrForm, "-0": api.ErrForm, "01": api.ErrForm, "1.5": api.ErrForm, "2/4": api.ErrForm, "3/1": api.ErrForm,
		"1/0": api.ErrForm, nines(601): api.ErrLarge, "-" + nines(601): api.ErrLarge, "1/" + nines(601): api.ErrLarge,
	}
}

// curveOf returns a curve through points, as X and Y one after another.
func curveOf(numbers ...api.Rat) []api.Point {
	var c []api.Point
	for pair := range slices.Chunk(numbers, 2) {
		c = append(c, api.Point{X: pair[0], Y: pair[1]})
	}
	return c
}

// example is the curve of the document's examples, which is a drying curve.
func example() []api.Point { return curveOf("0", "20", "2", "16", "6", "12") }

// exampleBands are the bands of the document's examples.
func exampleBands() []api.Band {
	return []api.Band{{Low: "0", High: "16", Heat: "5"}, {Low: "16", High: "30", Heat: "3"}}
}

// exampleHours and exampleClimate are the weather of the document's examples.
func exampleHours() []api.Hour {
	return []api.Hour{{Temperature: 50, Humidity: 60}, {Temperature: 40, Humidity: 80}, {Temperature: 30, Humidity: 60}, {Temperature: 20, Humidity: 60}}
}

func exampleClimate() api.Climate { return api.Climate{Cold: 0, Warm: 60, Dry: 0, Damp: 70} }

// weather returns hours of which those with a g suit the climate of the examples, and the others do not.
func weather(pattern string) []api.Hour {
	var l []api.Hour
	for _, letter := range pattern {
		h := api.Hour{Temperature: 30, Humidity: 50}
		if letter != 'g' {
			h.Humidity = 71
		}
		l = append(l, h)
	}
	return l
}

// randomPattern returns a pattern of at most so many hours.
func randomPattern(r *rand.Rand, hours int) string {
	pattern := ""
	for range r.Intn(hours + 1) {
		pattern += []string{"g", "g", "b"}[r.Intn(3)]
	}
	return pattern
}

// args are arguments of all functions.
type args struct {
	curve       []api.Point
	x, y        api.Rat
	from, to    api.Rat
	mass        int
	wet, target api.Rat
	targets     []api.Rat
	bands       []api.Band
	hours       []api.Hour
	hour        api.Hour
	climate     api.Climate
	need        int
	length      int
	speed       api.Span
	depth       api.Rat
	readings    [][]int
	watch       api.Watch
}

// goodArgs returns arguments with which no function returns an error.
func goodArgs() args {
	return args{
		curve: example(), x: "1", y: "15", from: "1/2", to: "5",
		mass: 1000, wet: "18", target: "13", targets: []api.Rat{"17", "14"}, bands: exampleBands(),
		hours: exampleHours(), hour: api.Hour{Temperature: 10, Humidity: 20}, climate: exampleClimate(), need: 2, length: 2,
		speed: span("1", "2"), depth: "5",
		readings: [][]int{{100, 100, 160}, {100, 130, 160}}, watch: api.Watch{Above: 150, Rise: 30, Within: 2, Over: 40},
	}
}

// copyOf returns arguments that share no memory with these ones.
func copyOf(a args) args {
	a.curve, a.targets, a.bands, a.hours = slices.Clone(a.curve), slices.Clone(a.targets), slices.Clone(a.bands), slices.Clone(a.hours)
	a.readings = slices.Clone(a.readings)
	for i := range a.readings {
		a.readings[i] = slices.Clone(a.readings[i])
	}
	return a
}

// call calls a function, and returns its results as a list and its error.
type call func(a args) ([]any, api.Errno)

// one makes a call of a function with one result beside its error.
func one[T any](f func(a args) (T, api.Errno)) call {
	return func(a args) ([]any, api.Errno) {
		x, e := f(a)
		return []any{x}, e
	}
}

// two makes a call of a function with two results beside its error.
func two[T, U any](f func(a args) (T, U, api.Errno)) call {
	return func(a args) ([]any, api.Errno) {
		x, y, e := f(a)
		return []any{x, y}, e
	}
}

// alone makes a call of a function that returns an error alone.
func alone(f func(a args) api.Errno) call {
	return func(a args) ([]any, api.Errno) { return nil, f(a) }
}

// calls has a call of each function of the package.
func calls() map[string]call {
	return map[string]call{
		"CheckCurve":    alone(func(a args) api.Errno { return dry.CheckCurve(a.curve) }),
		"At":            one(func(a args) (api.Rat, api.Errno) { return dry.At(a.curve, a.x) }),
		"Inverse":       one(func(a args) (api.Rat, api.Errno) { return dry.Inverse(a.curve, a.y) }),
		"Area":          one(func(a args) (api.Rat, api.Errno) { return dry.Area(a.curve, a.from, a.to) }),
		"Time":          one(func(a args) (api.Rat, api.Errno) { return dry.Time(a.curve, a.wet, a.target) }),
		"Shrink":        one(func(a args) (api.Rat, api.Errno) { return dry.Shrink(a.mass, a.wet, a.target) }),
		"Dry":           two(func(a args) (int, api.Rat, api.Errno) { return dry.Dry(a.mass, a.wet, a.target) }),
		"Steps":         two(func(a args) ([]int, []api.Rat, api.Errno) { return dry.Steps(a.mass, a.wet, a.targets) }),
		"CheckBands":    alone(func(a args) api.Errno { return dry.CheckBands(a.bands) }),
		"Energy":        one(func(a args) (api.Rat, api.Errno) { return dry.Energy(a.bands, a.mass, a.wet, a.target) }),
		"CheckHours":    alone(func(a args) api.Errno { return dry.CheckHours(a.hours) }),
		"CheckClimate":  alone(func(a args) api.Errno { return dry.CheckClimate(a.climate) }),
		"Suits":         one(func(a args) (bool, api.Errno) { return dry.Suits(a.hour, a.climate) }),
		"Fans":          one(func(a args) ([]int, api.Errno) { return dry.Fans(a.hours, a.climate, a.need) }),
		"Window":        one(func(a args) (int, api.Errno) { return dry.Window(a.hours, a.climate, a.length) }),
		"Front":         one(func(a args) ([]api.Span, api.Errno) { return dry.Front(a.hours, a.climate, a.speed, a.depth) }),
		"Through":       two(func(a args) (int, int, api.Errno) { return dry.Through(a.hours, a.climate, a.speed, a.depth) }),
		"Zones":         one(func(a args) ([]api.Zone, api.Errno) { return dry.Zones(a.hours, a.climate, a.speed, a.depth) }),
		"CheckReadings": alone(func(a args) api.Errno { return dry.CheckReadings(a.readings) }),
		"CheckWatch":    alone(func(a args) api.Errno { return dry.CheckWatch(a.watch) }),
		"Alarms":        one(func(a args) ([]api.Alarm, api.Errno) { return dry.Alarms(a.readings, a.watch) }),
		"Ranking":       one(func(a args) ([]int, api.Errno) { return dry.Ranking(a.readings) }),
	}
}

// fault is a change of arguments that causes an error.
type fault struct {
	what   string
	e      api.Errno
	change func(a *args)
}

// expectErrors checks that a function returns the error of each fault, alone and together with all those behind it, and nothing beside it.
func expectErrors(t *testing.T, name string, faults ...fault) {
	t.Helper()
	_, e := calls()[name](goodArgs())
	expect(t, name+" of good arguments", e, api.OK)
	for i, f := range faults {
		a := goodArgs()
		f.change(&a)
		expectError(t, name+": "+f.what, name, a, f.e)
		a = goodArgs()
		for _, later := range slices.Backward(faults[i:]) {
			later.change(&a)
		}
		expectError(t, name+": "+f.what+" and more", name, a, f.e)
	}
}

// expectError checks that a function returns an error, and nothing beside it.
func expectError(t *testing.T, what, name string, a args, want api.Errno) {
	t.Helper()
	results, e := calls()[name](a)
	expect(t, what, e, want)
	for _, x := range results {
		if v := reflect.ValueOf(x); !v.IsZero() && (v.Kind() != reflect.Slice || v.Len() > 0) {
			t.Errorf("%.300s: %v beside an error", what, x)
		}
	}
}

// expectNumberErrors checks that functions return the error of each text that is not a number, in a place of their arguments.
func expectNumberErrors(t *testing.T, place func(a *args) *api.Rat, names ...string) {
	t.Helper()
	for _, name := range names {
		for bad, e := range badNumbers() {
			a := goodArgs()
			*place(&a) = bad
			expectError(t, fmt.Sprintf("%s of %.30q", name, string(bad)), name, a, e)
		}
	}
}
