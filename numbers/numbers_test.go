package numbers_test

import (
	"reflect"
	"strings"
	"testing"

	"bushel/api"
	"bushel/exact"
	"bushel/numbers"
)

// expect reports a result that is not the expected one.
func expect(t *testing.T, what string, got, want any) {
	t.Helper()
	if !reflect.DeepEqual(got, want) {
		t.Errorf("%.100s: got %.100v, want %.100v", what, got, want)
	}
}

// nines returns the greatest number with so many digits.
func nines(digits int) string { return strings.Repeat("9", digits) }

func TestGreatest(t *testing.T) {
	a, e := numbers.Write(numbers.Greatest())
	expect(t, "the greatest number", []any{a, e}, []any{api.Rat(nines(api.MaxDigits)), api.OK})
	_, e = numbers.Write(numbers.Greatest().Plus(exact.Whole(1)))
	expect(t, "one more", e, api.ErrLarge)
}

func TestReadAndWrite(t *testing.T) {
	for _, text := range []string{"0", "-7", "3/2", "-1/3", nines(600), "-1/" + nines(600)} {
		n, e := numbers.Read(api.Rat(text))
		expect(t, "Read of "+text, e, api.OK)
		a, e := numbers.Write(n)
		expect(t, "Write of "+text, e, api.OK)
		expect(t, "Write of "+text, a, api.Rat(text))
	}
	for text, want := range map[string]api.Errno{"": api.ErrForm, "2/4": api.ErrForm, "-0": api.ErrForm, "1/0": api.ErrForm, nines(601): api.ErrLarge} {
		n, e := numbers.Read(api.Rat(text))
		expect(t, "Read of "+text, e, want)
		expect(t, "Read of "+text, n, exact.Number{})
	}
	for _, text := range []string{nines(601), "-" + nines(601), "1/" + nines(601)} {
		n, _ := exact.Read(text)
		a, e := numbers.Write(n)
		expect(t, "Write of "+text, e, api.ErrLarge)
		expect(t, "Write of "+text, a, api.Rat(""))
	}
}

func TestReadSpanAndWriteSpan(t *testing.T) {
	for _, s := range []api.Span{{Low: "0", High: "0"}, {Low: "-1/2", High: "1/3"}, {Low: "1", High: api.Rat(nines(600))}} {
		i, e := numbers.ReadSpan(s)
		expect(t, "ReadSpan", e, api.OK)
		got, e := numbers.WriteSpan(i)
		expect(t, "WriteSpan", e, api.OK)
		expect(t, "WriteSpan", got, s)
	}
	for s, want := range map[api.Span]api.Errno{{}: api.ErrForm, {Low: "1", High: "x"}: api.ErrForm, {Low: "2", High: "1"}: api.ErrOrder, {Low: "0", High: api.Rat(nines(601))}: api.ErrLarge} {
		i, e := numbers.ReadSpan(s)
		expect(t, "ReadSpan", e, want)
		expect(t, "ReadSpan", i, numbers.Interval{})
	}
	long, _ := exact.Read(nines(601))
	for _, i := range []numbers.Interval{{Low: long.Negated()}, {High: long}} {
		s, e := numbers.WriteSpan(i)
		expect(t, "WriteSpan", e, api.ErrLarge)
		expect(t, "WriteSpan", s, api.Span{})
	}
}

func TestEach(t *testing.T) {
	calls := 0
	half := func(n int) (int, api.Errno) {
		calls++
		if n%2 != 0 {
			return n, api.ErrRange
		}
		return n / 2, api.OK
	}
	l, e := numbers.Each([]int{4, 0, 6}, half)
	expect(t, "Each", e, api.OK)
	expect(t, "Each", l, []int{2, 0, 3})
	calls = 0
	l, e = numbers.Each([]int{4, 5, 7}, half)
	expect(t, "Each of an odd number", e, api.ErrRange)
	expect(t, "Each of an odd number", len(l), 0)
	expect(t, "calls until the first error", calls, 2)
	l, e = numbers.Each(nil, half)
	expect(t, "Each of nothing", e, api.OK)
	expect(t, "Each of nothing", len(l), 0)
}
