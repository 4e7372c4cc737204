package measure_test

import (
	"math"
	"math/big"
	"math/rand"
	"strings"
	"testing"

	"bushel/api"
	"bushel/measure"
)

// P1.1: names.

func TestNamesHaveOnlyTheirLetters(t *testing.T) {
	const letters = "abcdefghijklmnopqrstuvwxyzABCDEFGHIJKLMNOPQRSTUVWXYZ0123456789-_."
	for i := range 256 {
		c := string([]byte{byte(i)})
		for _, s := range []string{c, "a" + c, c + "a"} {
			expect(t, "IsName of "+s, measure.IsName(s), strings.Contains(letters, c))
		}
	}
	for _, s := range []string{"é", "aä", "日", "a\u0301", "ａ", "a b", "a/b", "lot#1", "\x00"} {
		expect(t, "IsName of "+s, measure.IsName(s), false)
	}
}

func TestNamesHaveOneTo24Bytes(t *testing.T) {
	for n := range 60 {
		expect(t, "IsName", measure.IsName(strings.Repeat("x", n)), n >= 1 && n <= 24)
	}
}

// P1.1: numbers.

func TestCheckAcceptsNumbers(t *testing.T) {
	for _, a := range []api.Rat{"0", "1", "-1", "7", "10", "-7", "3/2", "-3/2", "1/2", "5/4", "10/9", "9/10", "100/7",
		api.Rat(nines(600)), api.Rat("-" + nines(600)), api.Rat("1/" + nines(600)), api.Rat("-" + power(599) + "/" + nines(600))} {
		expect(t, "Check of "+string(a), measure.Check(a), api.OK)
	}
}

func TestErrorsOfNumbersInAllFunctions(t *testing.T) {
	for a, want := range badNumbers() {
		for name, call := range numberFunctions() {
			got, zero, e := call(a)
			expect(t, name+" of "+string(a), e, want)
			expect(t, "result of "+name+" of "+string(a), got, zero)
		}
	}
}

func TestOf(t *testing.T) {
	numbers := []int{0, 1, -1, 2, -2, 6, -4, 10, 97, 1 << 32, math.MaxInt64, math.MinInt64, math.MinInt64 + 1, math.MinInt64 / 2}
	for _, num := range numbers {
		for _, den := range numbers {
			got, e := measure.Of(num, den)
			if den == 0 {
				expect(t, "Of with 0", e, api.ErrZero)
				expect(t, "Of with 0", got, api.Rat(""))
				continue
			}
			want := new(big.Rat).SetFrac(big.NewInt(int64(num)), big.NewInt(int64(den)))
			expect(t, "Of", e, api.OK)
			expect(t, "Of", got, api.Rat(want.RatString()))
		}
	}
}

func TestParseReadsNumbers(t *testing.T) {
	for s, want := range map[string]api.Rat{
		"0": "0", "-0": "0", "000": "0", "7": "7", "007": "7", "-7": "-7", "-007": "-7",
		"12.50": "25/2", "-0.0": "0", "0.5": "1/2", "-0.5": "-1/2", "00.25": "1/4", "1.0": "1", "1.000000000000000000000": "1", "3.14": "157/50", "-12.125": "-97/8",
		"-6/4": "-3/2", "6/4": "3/2", "0/5": "0", "-0/5": "0", "5/1": "5", "06/04": "3/2", "6/003": "2", "1/10": "1/10",
		"123456789012345678901234567890.5":           "246913578024691357802469135781/2",
		strings.Repeat("0", 4096):                    "0",
		strings.Repeat("0", 4095) + "7":              "7",
		"-" + strings.Repeat("0", 4094) + "7":        "-7",
		"0." + strings.Repeat("0", 4094):             "0",
		"1." + strings.Repeat("0", 4094):             "1",
		"0." + strings.Repeat("0", 598) + "1":        api.Rat("1/" + power(599)),
		nines(600):                                   api.Rat(nines(600)),
		"-" + nines(600):                             api.Rat("-" + nines(600)),
		nines(2000) + "/" + nines(2000):              "1",
		power(2040) + "/" + "2" + power(2039)[1:]:    "5",
		power(2000) + "/" + power(2040):              api.Rat("1/" + power(40)),
		strings.Repeat("0", 4094) + "/7":             "0",
		"1/" + strings.Repeat("0", 4093) + "7":       "1/7",
		strings.Repeat("0", 2000) + "12.50" + "0000": "25/2",
	} {
		got, e := measure.Parse(s)
		expect(t, "error of Parse of "+s, e, api.OK)
		expect(t, "Parse of "+s, got, want)
	}
}

func TestParseErrors(t *testing.T) {
	for s, want := range map[string]api.Errno{
		"": api.ErrSyntax, "-": api.ErrSyntax, "+1": api.ErrSyntax, "--1": api.ErrSyntax, "1-": api.ErrSyntax, "- 1": api.ErrSyntax, " 1": api.ErrSyntax, "1\n": api.ErrSyntax,
		".": api.ErrSyntax, ".5": api.ErrSyntax, "5.": api.ErrSyntax, "-.5": api.ErrSyntax, "1..5": api.ErrSyntax, "1.2.3": api.ErrSyntax, "1.-5": api.ErrSyntax,
		"/": api.ErrSyntax, "/2": api.ErrSyntax, "1/": api.ErrSyntax, "-/2": api.ErrSyntax, "1/-2": api.ErrSyntax, "1/+2": api.ErrSyntax, "1/2/3": api.ErrSyntax, "1//2": api.ErrSyntax,
		"1.5/2": api.ErrSyntax, "1/2.5": api.ErrSyntax, "1/.5": api.ErrSyntax, "1,5": api.ErrSyntax, "1e3": api.ErrSyntax, "0x10": api.ErrSyntax, "1_000": api.ErrSyntax, "٣": api.ErrSyntax, "1\x00": api.ErrSyntax, "abc": api.ErrSyntax,
		"1/0": api.ErrZero, "0/0": api.ErrZero, "-5/000": api.ErrZero, "x/0": api.ErrSyntax, "/0": api.ErrSyntax, "1.5/0": api.ErrSyntax,
		nines(601): api.ErrLarge, "-" + nines(601): api.ErrLarge, "1/" + nines(601): api.ErrLarge, "0." + strings.Repeat("0", 599) + "1": api.ErrLarge, nines(4096): api.ErrLarge,
		nines(700) + "/0":                api.ErrZero,
		strings.Repeat("0", 4097):        api.ErrLong,
		strings.Repeat("x", 4097):        api.ErrLong,
		strings.Repeat("x", 4096):        api.ErrSyntax,
		"-" + strings.Repeat("0", 4096):  api.ErrLong,
		"1/" + strings.Repeat("0", 4095): api.ErrLong,
		"1/" + strings.Repeat("0", 4094): api.ErrZero,
	} {
		got, e := measure.Parse(s)
		expect(t, "error of Parse of "+s, e, want)
		expect(t, "Parse of "+s, got, api.Rat(""))
	}
}

func TestInt(t *testing.T) {
	for _, n := range []int{0, 1, -1, 12345, math.MaxInt64, math.MinInt64, math.MinInt64 + 1} {
		got, e := measure.Int(api.Rat(big.NewInt(int64(n)).String()))
		expect(t, "Int", got, n)
		expect(t, "Int", e, api.OK)
	}
	for _, a := range []api.Rat{"1/2", "-1/2", "7/3", "9223372036854775808", "-9223372036854775809", "18446744073709551616", "-18446744073709551616", api.Rat(nines(600))} {
		got, e := measure.Int(a)
		expect(t, "Int of "+string(a), got, 0)
		expect(t, "Int of "+string(a), e, api.ErrRange)
	}
}

func TestOperationsOnNumbers(t *testing.T) {
	r := rand.New(rand.NewSource(1))
	for i := range 3000 {
		digits := []int{1, 2, 9, 20, 40, 310, 600}[i%7]
		a, b := randomRat(r, digits), randomRat(r, digits)
		x, y := toBig(t, a), toBig(t, b)
		for name, row := range map[string]struct {
			call func(a, b api.Rat) (api.Rat, api.Errno)
			want *big.Rat
		}{
			"Add": {measure.Add, new(big.Rat).Add(x, y)},
			"Sub": {measure.Sub, new(big.Rat).Sub(x, y)},
			"Mul": {measure.Mul, new(big.Rat).Mul(x, y)},
		} {
			want, wantError := ofBig(row.want)
			got, e := row.call(a, b)
			expect(t, name+" of "+string(a+" "+b), e, wantError)
			expect(t, name+" of "+string(a+" "+b), got, want)
		}
		if y.Sign() != 0 {
			want, wantError := ofBig(new(big.Rat).Quo(x, y))
			got, e := measure.Div(a, b)
			expect(t, "Div of "+string(a+" "+b), e, wantError)
			expect(t, "Div of "+string(a+" "+b), got, want)
		}
		order, e := measure.Compare(a, b)
		expect(t, "Compare of "+string(a+" "+b), e, api.OK)
		expect(t, "Compare of "+string(a+" "+b), order, x.Cmp(y))
		floor, e := measure.Floor(a)
		expect(t, "Floor of "+string(a), e, api.OK)
		expect(t, "Floor of "+string(a), floor, api.Rat(new(big.Int).Div(x.Num(), x.Denom()).String()))
	}
}

func TestResultsHaveAtMost600Digits(t *testing.T) {
	most := api.Rat(nines(600))
	for _, row := range []struct {
		what string
		call func(a, b api.Rat) (api.Rat, api.Errno)
		a, b api.Rat
		want api.Rat
		e    api.Errno
	}{
		{"Add", measure.Add, most, "0", most, api.OK},
		{"Add", measure.Add, most, "1", "", api.ErrLarge},
		{"Add", measure.Add, most, "-" + most, "0", api.OK},
		{"Sub", measure.Sub, "-" + most, "1", "", api.ErrLarge},
		{"Sub", measure.Sub, "-" + most, "-1", api.Rat("-" + nines(599) + "8"), api.OK},
		{"Mul", measure.Mul, api.Rat(power(299)), api.Rat(power(300)), api.Rat(power(599)), api.OK},
		{"Mul", measure.Mul, api.Rat(power(300)), api.Rat(power(300)), "", api.ErrLarge},
		{"Mul", measure.Mul, "1/" + most, most, "1", api.OK},
		{"Mul", measure.Mul, "1/" + most, "1/2", "", api.ErrLarge},
		{"Mul", measure.Mul, "1/" + most, "0", "0", api.OK},
		{"Div", measure.Div, most, most, "1", api.OK},
		{"Div", measure.Div, "1", most, "1/" + most, api.OK},
		{"Div", measure.Div, "1/" + most, "10", "", api.ErrLarge},
		{"Add", measure.Add, "1/" + most, api.Rat("1/" + power(599)), "", api.ErrLarge},
	} {
		got, e := row.call(row.a, row.b)
		expect(t, row.what, e, row.e)
		expect(t, row.what, got, row.want)
	}
}

func TestDivisionByZero(t *testing.T) {
	for _, a := range []api.Rat{"0", "1", "-3/2", api.Rat(nines(600))} {
		got, e := measure.Div(a, "0")
		expect(t, "Div by 0", e, api.ErrZero)
		expect(t, "Div by 0", got, api.Rat(""))
	}
	_, e := measure.Div("0", "5")
	expect(t, "0 / 5", e, api.OK)
}

func TestCompareOfCloseNumbers(t *testing.T) {
	ordered := []api.Rat{api.Rat("-" + nines(600)), "-2", "-3/2", "-1/2", "-1/3", api.Rat("-1/" + nines(600)), "0", api.Rat("1/" + nines(600)), api.Rat("1/" + power(599)),
		"1/3", "1/2", "9/10", api.Rat(nines(599) + "8/" + nines(600)), "1", api.Rat(nines(600) + "/" + nines(599) + "8"), "3/2", "2", "10", api.Rat(power(599)), api.Rat(nines(600))}
	for i, a := range ordered {
		for k, b := range ordered {
			want := 0
			if i < k {
				want = -1
			} else if i > k {
				want = 1
			}
			got, e := measure.Compare(a, b)
			expect(t, "Compare", e, api.OK)
			expect(t, "Compare of "+string(a+" "+b), got, want)
		}
	}
}

func TestFloor(t *testing.T) {
	for a, want := range map[api.Rat]api.Rat{"0": "0", "3": "3", "-3": "-3", "3/2": "1", "-3/2": "-2", "1/2": "0", "-1/2": "-1", "7/8": "0", "-1/1000": "-1",
		api.Rat("-" + nines(600)): api.Rat("-" + nines(600)), api.Rat("-1/" + nines(600)): "-1"} {
		got, e := measure.Floor(a)
		expect(t, "Floor of "+string(a), e, api.OK)
		expect(t, "Floor of "+string(a), got, want)
	}
}

// P1.1: rounding.

func TestRoundInTheMiddleAndBeside(t *testing.T) {
	for _, row := range []struct {
		a                        api.Rat
		step                     api.Rat
		down, up, halfUp, toEven api.Rat
	}{
		{"5/8", "1/4", "1/2", "3/4", "3/4", "1/2"},
		{"7/8", "1/4", "3/4", "1", "1", "1"},
		{"-5/8", "1/4", "-3/4", "-1/2", "-1/2", "-1/2"},
		{"-7/8", "1/4", "-1", "-3/4", "-3/4", "-1"},
		{"1/2", "1", "0", "1", "1", "0"},
		{"3/2", "1", "1", "2", "2", "2"},
		{"-1/2", "1", "-1", "0", "0", "0"},
		{"-3/2", "1", "-2", "-1", "-1", "-2"},
		{"499/1000", "1", "0", "1", "0", "0"},
		{"501/1000", "1", "0", "1", "1", "1"},
		{"1501/1000", "1", "1", "2", "2", "2"},
		{"1499/1000", "1", "1", "2", "1", "1"},
		{"-501/1000", "1", "-1", "0", "-1", "-1"},
		{"14", "5", "10", "15", "15", "15"},
		{"12", "5", "10", "15", "10", "10"},
		{"25/2", "5", "10", "15", "15", "10"},
		{"15/2", "5", "5", "10", "10", "10"},
		{"15", "5", "15", "15", "15", "15"},
		{"0", "7/3", "0", "0", "0", "0"},
		{"-6", "3/2", "-6", "-6", "-6", "-6"},
		{"1", "2/3", "2/3", "4/3", "4/3", "4/3"},
		{"1/3", "2/3", "0", "2/3", "2/3", "0"},
	} {
		for kind, want := range map[string]api.Rat{"down": row.down, "up": row.up, "half-up": row.halfUp, "half-even": row.toEven} {
			got, e := measure.Round(row.a, api.Rounding{Kind: kind, Step: row.step})
			expect(t, "Round of "+string(row.a)+" "+kind, e, api.OK)
			expect(t, "Round of "+string(row.a)+" "+kind, got, want)
		}
	}
}

func TestRoundLimits(t *testing.T) {
	most := api.Rat(nines(600))
	got, e := measure.Round(most, api.Rounding{Kind: "up", Step: "2"})
	expect(t, "a number above all results", e, api.ErrLarge)
	expect(t, "a number above all results", got, api.Rat(""))
	got, e = measure.Round(most, api.Rounding{Kind: "down", Step: "2"})
	expect(t, "a number above all results, rounded down", e, api.OK)
	expect(t, "a number above all results, rounded down", got, api.Rat(nines(599)+"8"))
	got, e = measure.Round(most, api.Rounding{Kind: "half-even", Step: "1/" + most})
	expect(t, "many steps", e, api.OK)
	expect(t, "many steps", got, most)
	got, e = measure.Round("1/"+most, api.Rounding{Kind: "up", Step: most})
	expect(t, "one step", e, api.OK)
	expect(t, "one step", got, most)
}

func TestErrorsOfRules(t *testing.T) {
	for _, row := range []struct {
		rule api.Rounding
		e    api.Errno
	}{
		{api.Rounding{Kind: "down", Step: "1"}, api.OK}, {api.Rounding{Kind: "up", Step: "1/3"}, api.OK},
		{api.Rounding{Kind: "half-up", Step: "5"}, api.OK}, {api.Rounding{Kind: "half-even", Step: api.Rat(nines(600))}, api.OK},
		{api.Rounding{}, api.ErrKind}, {api.Rounding{Kind: "half", Step: "1"}, api.ErrKind}, {api.Rounding{Kind: "Up", Step: "1"}, api.ErrKind},
		{api.Rounding{Kind: "half-down", Step: "x"}, api.ErrKind}, {api.Rounding{Kind: "up ", Step: "0"}, api.ErrKind},
		{api.Rounding{Kind: "up"}, api.ErrForm}, {api.Rounding{Kind: "up", Step: "2/4"}, api.ErrForm}, {api.Rounding{Kind: "up", Step: api.Rat(nines(601))}, api.ErrLarge},
		{api.Rounding{Kind: "up", Step: "0"}, api.ErrRange}, {api.Rounding{Kind: "down", Step: "-1"}, api.ErrRange}, {api.Rounding{Kind: "half-up", Step: "-1/2"}, api.ErrRange},
	} {
		expect(t, "CheckRule", measure.CheckRule(row.rule), row.e)
		if row.e != api.OK {
			got, e := measure.Round("1", row.rule)
			expect(t, "Round", e, row.e)
			expect(t, "Round", got, api.Rat(""))
			s, e := measure.RoundSpan(span("1", "2"), row.rule)
			expect(t, "RoundSpan", e, row.e)
			expect(t, "RoundSpan", s, api.Span{})
		}
	}
}
