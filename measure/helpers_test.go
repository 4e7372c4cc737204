package measure_test

import (
	"fmt"
	"math/big"
	"math/rand"
	"reflect"
	"strings"
	"testing"

	"bushel/api"
	"bushel/measure"
)

// expect reports a result that is not the expected one.
func expect(t *testing.T, what string, got, want any) {
	t.Helper()
	if !reflect.DeepEqual(got, want) {
		t.Errorf("%.200s: got %s, want %s", what, short(got), short(want))
	}
}

// short returns the beginning of a value's text: numbers may have thousands of digits.
func short(value any) string {
	return fmt.Sprintf("%.200s", fmt.Sprint(value))
}

// nines returns the greatest number with so many digits.
func nines(digits int) string { return strings.Repeat("9", digits) }

// power returns the least number with more than so many digits.
func power(digits int) string { return "1" + strings.Repeat("0", digits) }

// span returns a span.
func span(low, high api.Rat) api.Span { return api.Span{Low: low, High: high} }

// toBig returns a number of math/big, which is the judge of these tests.
func toBig(t *testing.T, a api.Rat) *big.Rat {
	t.Helper()
	r, ok := new(big.Rat).SetString(string(a))
	if !ok {
		t.Fatalf("not a number: %.80q", a)
	}
	return r
}

// ofBig returns the result that a number of math/big is, by the limit of digits.
func ofBig(r *big.Rat) (api.Rat, api.Errno) {
	if len(new(big.Int).Abs(r.Num()).String()) > api.MaxDigits || len(r.Denom().String()) > api.MaxDigits {
		return "", api.ErrLarge
	}
	return api.Rat(r.RatString()), api.OK
}

// spanOfBig returns the result that a span with these ends is.
func spanOfBig(low, high *big.Rat) (api.Span, api.Errno) {
	l, e := ofBig(low)
	if e != api.OK {
		return api.Span{}, e
	}
	h, e := ofBig(high)
	if e != api.OK {
		return api.Span{}, e
	}
	return api.Span{Low: l, High: h}, api.OK
}

// randomInt returns an integer of at most so many digits.
func randomInt(r *rand.Rand, digits int) *big.Int {
	n, _ := new(big.Int).SetString(power(r.Intn(digits)+1), 10)
	n.Rand(r, n)
	if r.Intn(2) == 0 {
		n.Neg(n)
	}
	return n
}

// randomRat returns a number of at most so many digits.
func randomRat(r *rand.Rand, digits int) api.Rat {
	bottom := randomInt(r, digits)
	if bottom.Sign() == 0 || r.Intn(4) == 0 {
		bottom.SetInt64(1)
	}
	return api.Rat(new(big.Rat).SetFrac(randomInt(r, digits), bottom).RatString())
}

// randomSpan returns a span whose ends have at most so many digits.
func randomSpan(t *testing.T, r *rand.Rand, digits int) api.Span {
	t.Helper()
	a, b := randomRat(r, digits), randomRat(r, digits)
	if toBig(t, a).Cmp(toBig(t, b)) > 0 {
		a, b = b, a
	}
	return api.Span{Low: a, High: b}
}

// must returns the first result of a call that has to succeed.
func must[T any](t *testing.T) func(T, api.Errno) T {
	return func(result T, e api.Errno) T {
		t.Helper()
		if e != api.OK {
			t.Fatalf("error %d", e)
		}
		return result
	}
}

// badNumbers are texts that are not numbers, with their errors.
func badNumbers() map[api.Rat]api.Errno {
	return map[api.Rat]api.Errno{
		"": api.ErrForm, "-": api.ErrForm, "/": api.ErrForm, "x": api.ErrForm, "+1": api.ErrForm, " 1": api.ErrForm, "1 ": api.ErrForm,
		"-0": api.ErrForm, "00": api.ErrForm, "01": api.ErrForm, "-01": api.ErrForm, "--1": api.ErrForm, "1-": api.ErrForm,
		"1.5": api.ErrForm, "1e3": api.ErrForm, "0x1": api.ErrForm, "1_0": api.ErrForm, "٣": api.ErrForm, "1\x00": api.ErrForm, "\xff": api.ErrForm,
		"1/": api.ErrForm, "/2": api.ErrForm, "-/2": api.ErrForm, "1/0": api.ErrForm, "1/00": api.ErrForm, "1/1": api.ErrForm, "0/1": api.ErrForm,
		"1/02": api.ErrForm, "1/-2": api.ErrForm, "-1/-2": api.ErrForm, "1/2/3": api.ErrForm, "1//2": api.ErrForm, "01/2": api.ErrForm,
		"-0/2": api.ErrForm, "4/6": api.ErrForm, "-4/6": api.ErrForm, "6/3": api.ErrForm, "0/5": api.ErrForm, "2/2": api.ErrForm,
		api.Rat(nines(601)): api.ErrLarge, api.Rat("-" + nines(601)): api.ErrLarge, api.Rat("1/" + nines(601)): api.ErrLarge,
		api.Rat(nines(5000)): api.ErrLarge, api.Rat(nines(601) + "/3"): api.ErrLarge, api.Rat("0/" + nines(601)): api.ErrLarge,
		api.Rat(nines(601) + "/0"): api.ErrForm, api.Rat(nines(601) + "/1"): api.ErrForm, api.Rat("0" + nines(601)): api.ErrForm,
		api.Rat(nines(601) + "x"): api.ErrForm, api.Rat("-0/" + nines(601)): api.ErrForm, api.Rat("2/" + power(599)): api.ErrForm,
		api.Rat(nines(600) + "/" + nines(600)): api.ErrForm,
	}
}

// numberFunctions are the functions that return the error of a number; beside it each returns its result, and the zero value of that.
// Arguments behind the number have errors of their own, which must not come first.
func numberFunctions() map[string]func(a api.Rat) (any, any, api.Errno) {
	up := api.Rounding{Kind: "up", Step: "1"}
	return map[string]func(a api.Rat) (any, any, api.Errno){
		"Check":     func(a api.Rat) (any, any, api.Errno) { return 0, 0, measure.Check(a) },
		"Int":       func(a api.Rat) (any, any, api.Errno) { n, e := measure.Int(a); return n, 0, e },
		"Add":       func(a api.Rat) (any, any, api.Errno) { n, e := measure.Add(a, "?"); return n, api.Rat(""), e },
		"Add of b":  func(a api.Rat) (any, any, api.Errno) { n, e := measure.Add("1", a); return n, api.Rat(""), e },
		"Sub":       func(a api.Rat) (any, any, api.Errno) { n, e := measure.Sub(a, "?"); return n, api.Rat(""), e },
		"Sub of b":  func(a api.Rat) (any, any, api.Errno) { n, e := measure.Sub("1", a); return n, api.Rat(""), e },
		"Mul":       func(a api.Rat) (any, any, api.Errno) { n, e := measure.Mul(a, "?"); return n, api.Rat(""), e },
		"Mul of b":  func(a api.Rat) (any, any, api.Errno) { n, e := measure.Mul("0", a); return n, api.Rat(""), e },
		"Div":       func(a api.Rat) (any, any, api.Errno) { n, e := measure.Div(a, "0"); return n, api.Rat(""), e },
		"Div by b":  func(a api.Rat) (any, any, api.Errno) { n, e := measure.Div("1", a); return n, api.Rat(""), e },
		"Compare":   func(a api.Rat) (any, any, api.Errno) { n, e := measure.Compare(a, "?"); return n, 0, e },
		"Compare b": func(a api.Rat) (any, any, api.Errno) { n, e := measure.Compare("1", a); return n, 0, e },
		"Floor":     func(a api.Rat) (any, any, api.Errno) { n, e := measure.Floor(a); return n, api.Rat(""), e },
		"Round": func(a api.Rat) (any, any, api.Errno) {
			n, e := measure.Round(a, api.Rounding{})
			return n, api.Rat(""), e
		},
		"Round's": func(a api.Rat) (any, any, api.Errno) {
			n, e := measure.Round("1", api.Rounding{Kind: "up", Step: a})
			return n, api.Rat(""), e
		},
		"CheckRule": func(a api.Rat) (any, any, api.Errno) {
			return 0, 0, measure.CheckRule(api.Rounding{Kind: "down", Step: a})
		},
		"Low":  func(a api.Rat) (any, any, api.Errno) { return 0, 0, measure.CheckSpan(span(a, "?")) },
		"High": func(a api.Rat) (any, any, api.Errno) { return 0, 0, measure.CheckSpan(span("1", a)) },
		"RoundSpan": func(a api.Rat) (any, any, api.Errno) {
			s, e := measure.RoundSpan(span("1", a), up)
			return s, api.Span{}, e
		},
		"Matter":  func(a api.Rat) (any, any, api.Errno) { n, e := measure.Matter(1, a); return n, api.Rat(""), e },
		"Wet":     func(a api.Rat) (any, any, api.Errno) { n, e := measure.Wet(1, a, "?"); return n, api.Rat(""), e },
		"Wet, to": func(a api.Rat) (any, any, api.Errno) { n, e := measure.Wet(1, "1", a); return n, api.Rat(""), e },
		"CheckShare": func(a api.Rat) (any, any, api.Errno) {
			return 0, 0, measure.CheckShares([]api.Share{{Lot: "a", Part: a}})
		},
	}
}
