package ledger_test

import (
	"fmt"
	"math/big"
	"math/rand"
	"testing"

	"bushel/api"
	"bushel/ledger"
)

// P9.7 and P9.8: values of expressions, charges and bills, and what values depend on.

// read returns the expression of a text.
func read(t *testing.T, text string) api.Expr {
	t.Helper()
	x, _, e := ledger.Read(text)
	if e != api.OK {
		t.Fatalf("Read of %.200q: error %d", text, e)
	}
	return x
}

func TestValues(t *testing.T) {
	// The mass is 600, the day 20, and the eleventh in a row.
	for text, want := range map[string]api.Rat{
		exampleText: "3/5", "mass": "600", "days": "11", "day": "20", "7": "7", "3/7": "3/7", "0": "0",
		"-mass": "-600", "--3": "3", "-0": "0", "1 + 1/2": "3/2", "1/2 - 2": "-3/2", "2/3 * 3/4": "1/2", "1 / 3": "1/3", "-1 / 3": "-1/3", "1/2 / (3/4)": "2/3", "4 / (1 - 1)": "0", "0 / 0": "0", "-5 / 0": "0",
		"min(2, 3)": "2", "min(3, 2)": "2", "max(2, 3)": "3", "max(3, 2)": "3", "min(-1/2, -1/3)": "-1/2", "max(-1/2, -1/3)": "-1/3", "min(2, 2)": "2", "max(2, 2)": "2",
		"floor(7/2)": "3", "floor(-7/2)": "-4", "floor(3)": "3", "floor(-3)": "-3", "floor(1/2)": "0", "floor(-1/2)": "-1",
		"if 1 < 2 then 1 else 0": "1", "if 2 < 2 then 1 else 0": "0", "if 3 < 2 then 1 else 0": "0", "if 1 <= 2 then 1 else 0": "1", "if 2 <= 2 then 1 else 0": "1", "if 3 <= 2 then 1 else 0": "0",
		"if 1/2 = 2 / 4 then 1 else 0": "1", "if 1/2 = 1/3 then 1 else 0": "0", "if 1/3 = 1/2 then 1 else 0": "0", "if not 1 = 1 then 1 else 0": "0", "if not 1 = 2 then 1 else 0": "1",
		"if 1 = 1 and 2 = 2 then 1 else 0": "1", "if 1 = 1 and 2 = 3 then 1 else 0": "0", "if 1 = 2 and 2 = 2 then 1 else 0": "0", "if 1 = 2 and 2 = 3 then 1 else 0": "0",
		"if 1 = 1 or 2 = 2 then 1 else 0": "1", "if 1 = 1 or 2 = 3 then 1 else 0": "1", "if 1 = 2 or 2 = 2 then 1 else 0": "1", "if 1 = 2 or 2 = 3 then 1 else 0": "0",
		"if -1 < 0 then -1 else -2": "-1", "(if day = 20 then mass else days) * 2": "1200", "mass * days - day": "6580",
	} {
		expect(t, "Eval of "+text, ok[api.Rat](t, text)(ledger.Eval(read(t, text), 600, 11, 20)), want)
	}
	for days := range 30 {
		want := api.Rat("0")
		if days >= 11 {
			want = "3/5"
		}
		expect(t, "Eval of the example", ok[api.Rat](t, "Eval")(ledger.Eval(exampleExpr(), 600, days, 3)), want)
	}
	expect(t, "the greatest values", ok[api.Rat](t, "Eval")(ledger.Eval(read(t, "mass + days + day"), api.MaxMass, api.MaxDay+1, api.MaxDay)), api.Rat("1000200000"))
	expect(t, "the least values", ok[api.Rat](t, "Eval")(ledger.Eval(read(t, "mass + days + day"), 0, 0, 0)), api.Rat("0"))
}

// TestLongValues checks which values are too long: those that are evaluated, also on the way.
func TestLongValues(t *testing.T) {
	n := string(nines(600))
	for text, want := range map[string]api.Rat{
		n: nines(600), "-" + n: "-" + nines(600), n + " + 0": nines(600), string(power(599)) + " * 9": "9" + power(599)[1:], "1/" + n: "1/" + nines(600), "1 / " + n: "1/" + nines(600), n + " - " + n: "0",
		"floor(" + n + " / 2)": api.Rat("4" + string(nines(599))), n + " + 1": "", "-" + n + " - 1": "", n + " + " + n: "", string(power(599)) + " * 10": "", "1/" + n + " / 10": "", "1/" + n + " + 1/2": "",
		"0 * (" + n + " + 1)": "", n + " + 1 - 1": "", n + " * 10 / 10": "", n + " / 10 * 10": nines(600), "min(1, " + n + " + 1)": "", "max(" + n + " + 1, 1)": "", "floor(1 / (" + n + " + 1))": "", "-(" + n + " * 2) / 2": "",
		"if 1 = 1 then 1 else " + n + " + 1": "1", "if 1 = 2 then " + n + " + 1 else 2": "2", "if 1 = 1 then " + n + " + 1 else 2": "", "if 1 = 2 then 1 else " + n + " + 1": "",
		"if " + n + " + 1 < 0 then 1 else 2": "", "if 0 < " + n + " * 2 then 1 else 2": "", "if 1 = 1 or " + n + " + 1 = 0 then 1 else 2": "", "if 1 = 2 and " + n + " + 1 = 0 then 1 else 2": "", "if " + n + " + 1 = 0 or 1 = 1 then 1 else 2": "", "if not " + n + " + 1 = 0 then 1 else 2": "",
		"if 1 = 1 then if 1 = 2 then " + n + " + 1 else 5 else 6": "5",
	} {
		a, e := ledger.Eval(read(t, text), 1, 1, 1)
		wantError := api.OK
		if want == "" {
			wantError = api.ErrLarge
		}
		expect(t, "Eval of "+text, []any{a, e}, []any{want, wantError})
		_, e = ledger.Changes(read(t, text), 1, 1, 1)
		expect(t, "Changes of "+text, e, wantError)
	}
}

// lengthened returns an expression some of whose numbers are long.
func lengthened(r *rand.Rand, x api.Expr) api.Expr {
	if x.Op == "number" && r.Intn(2) == 0 {
		x.Value = []api.Rat{nines(600), nines(598), "1/" + nines(600), power(299), "1/" + power(300)}[r.Intn(5)]
	}
	var operands []api.Expr
	for _, operand := range x.Args {
		operands = append(operands, lengthened(r, operand))
	}
	x.Args = operands
	return x
}

// TestValuesAgainstDefinition checks the values of random expressions, and the names that are evaluated.
func TestValuesAgainstDefinition(t *testing.T) {
	r := rand.New(rand.NewSource(9))
	codes := map[api.Errno]int{}
	for i := range 4000 {
		x := randomExpr(r, 'n', 1+r.Intn(7))
		if i%2 == 0 {
			x = lengthened(r, x)
		}
		if _, e := exprError(x); e != api.OK {
			continue
		}
		at := map[string]int{"mass": r.Intn(3) * r.Intn(700), "days": r.Intn(20), "day": r.Intn(20)}
		v := valueOf(x, at)
		want, e := result(v.number)
		if v.isLarge {
			want, e = "", api.ErrLarge
		}
		codes[e]++
		what := fmt.Sprint(at, outline(x))
		a, got := ledger.Eval(x, at["mass"], at["days"], at["day"])
		expect(t, "Eval of "+what, []any{a, got}, []any{want, e})
		var names []string
		for _, name := range []string{"mass", "days", "day"} {
			if v.names[name] && e == api.OK {
				names = append(names, name)
			}
		}
		changes, got := ledger.Changes(x, at["mass"], at["days"], at["day"])
		expect(t, "the error of Changes of "+what, got, e)
		expectList(t, "Changes of "+what, changes, names)
	}
	if codes[api.OK] < 1000 || codes[api.ErrLarge] < 60 {
		t.Errorf("the results are %v", codes)
	}
}

func TestChanges(t *testing.T) {
	// The mass is 600, the day 20, and the eleventh in a row.
	for text, want := range map[string][]string{
		"1": nil, "mass": {"mass"}, "days": {"days"}, "day": {"day"}, "day + days + mass": {"mass", "days", "day"}, "day * day": {"day"}, "0 * mass": {"mass"}, "day - day": {"day"},
		"if 1 = 1 then mass else day": {"mass"}, "if 1 = 2 then mass else day": {"day"}, "if day = 1 then mass else 3": {"day"}, "if 1 = 1 or mass = 1 then 1 else days": {"mass"}, "if 1 = 2 and day = 1 then mass else 2": {"day"},
		"min(1, mass)": {"mass"}, "floor(days / 0)": {"days"}, "-(if not days = 3 then day else mass)": {"days", "day"},
	} {
		expectList(t, "Changes of "+text, ok[[]string](t, text)(ledger.Changes(read(t, text), 600, 11, 20)), want)
	}
	expectList(t, "Changes of the example", ok[[]string](t, "Changes")(ledger.Changes(exampleExpr(), 600, 5, 5)), []string{"days"})
	expectList(t, "Changes of the example later", ok[[]string](t, "Changes")(ledger.Changes(exampleExpr(), 600, 11, 5)), []string{"mass", "days"})
}

func TestCheckSteps(t *testing.T) {
	for _, h := range [][]api.Step{nil, exampleSteps(), {step(0, 1), step(1, 0), step(2, 1)}, {step(0, api.MaxMass), step(api.MaxDay, 0)}, {step(5, 7), step(6, 8), step(9, 7)}} {
		expect(t, fmt.Sprint("CheckSteps of ", h), ledger.CheckSteps(h), api.OK)
	}
	var many []api.Step
	for i := range 1000 {
		many = append(many, step(i, 1+i%2))
	}
	expect(t, "CheckSteps of 1000 steps", ledger.CheckSteps(many), api.OK)
	expect(t, "CheckSteps of 1001 steps", ledger.CheckSteps(append(many, step(1000, 5))), api.ErrMany)
}

// lines returns lines with names and amounts in turn.
func lines(l ...string) []api.Line {
	var result []api.Line
	for i := 0; i < len(l); i += 2 {
		result = append(result, api.Line{Name: l[i], Amount: api.Rat(l[i+1])})
	}
	return result
}

func TestCharges(t *testing.T) {
	tariff := []api.Rule{rule("store", exampleExpr()), rule("mass", tree("mass")), rule("days", tree("days")), rule("day", tree("day"))}
	for _, x := range []struct {
		h        []api.Step
		from, to int
		want     []api.Line
	}{
		{exampleSteps(), 1, 12, lines("store", "1", "mass", "6300", "days", "78", "day", "78")},
		{exampleSteps(), 0, 0, lines("store", "0", "mass", "0", "days", "0", "day", "0")},
		{exampleSteps(), 11, 11, lines("store", "1/2", "mass", "500", "days", "11", "day", "11")},
		{nil, 3, 5, lines("store", "0", "mass", "0", "days", "0", "day", "12")},
		{[]api.Step{step(2, 5), step(4, 0), step(6, 1), step(7, 2)}, 0, 8, lines("store", "0", "mass", "15", "days", "9", "day", "36")},
		{[]api.Step{step(0, 5)}, 0, 3, lines("store", "0", "mass", "20", "days", "10", "day", "6")},
		{[]api.Step{step(0, 5)}, api.MaxDay, api.MaxDay, lines("store", "1/200", "mass", "5", "days", "100001", "day", "100000")},
		{[]api.Step{step(api.MaxDay, 5)}, api.MaxDay - 1, api.MaxDay, lines("store", "0", "mass", "5", "days", "1", "day", "199999")},
	} {
		expectList(t, fmt.Sprint("Charge of ", x.h, x.from, x.to), ok[[]api.Line](t, "Charge")(ledger.Charge(tariff, x.h, x.from, x.to)), x.want)
	}
	expectList(t, "Charge of 4000 days", ok[[]api.Line](t, "Charge")(ledger.Charge(tariff, exampleSteps(), 1, 4000)), lines("store", "1995", "mass", "2000300", "days", "8002000", "day", "8002000"))
	expectList(t, "Charge by no rules", ok[[]api.Line](t, "Charge")(ledger.Charge(nil, exampleSteps(), 1, 4000)), nil)
}

// TestSumsOfCharges checks sums that are too large at their end, or only on the way.
func TestSumsOfCharges(t *testing.T) {
	n := string(nines(600))
	for text, want := range map[string]api.Rat{
		n: "", "if day <= 2 then " + n + " else -" + n: "0", "if day = 2 then " + n + " else 0": nines(600), "if day = 2 then " + n + " else 1/3": "", "if day = 9 then " + n + " + 1 else 0": "0", "if day = 3 then 0 * (" + n + " + 1) else 0": "",
		"if day < 3 then 1/" + n + " else if day = 3 then -1/" + n + " else 1/2": "", "(if day < 3 then 1 else -1) * (1 - 1/" + n + ")": "0", "(if day = 1 or day = 4 then 1 else -1) * (if day < 3 then 1/" + n + " else 1/" + string(nines(599)) + ")": "0",
	} {
		for _, tariff := range [][]api.Rule{{rule("a", read(t, text))}, {rule("b", num("1/4")), rule("a", read(t, text))}} {
			l, e := ledger.Charge(tariff, nil, 1, 4)
			if want == "" {
				expect(t, "the error of the charge of "+text, e, api.ErrLarge)
				expectList(t, "the charge of "+text, l, nil)
				continue
			}
			expect(t, "the error of the charge of "+text, e, api.OK)
			expect(t, "the charge of "+text, l[len(l)-1], api.Line{Name: "a", Amount: want})
			expect(t, "the number of lines", len(l), len(tariff))
		}
	}
}

// chargeOf returns the charge of an expression by the definition.
func chargeOf(x api.Expr, h []api.Step, from, to int) (api.Rat, api.Errno) {
	total := new(big.Rat)
	for day := from; day <= to; day++ {
		v := valueOf(x, map[string]int{"mass": massOn(h, day), "days": daysOn(h, day), "day": day})
		if v.isLarge {
			return "", api.ErrLarge
		}
		total = sum(total, v.number)
	}
	return result(total)
}

func TestChargesAgainstDefinition(t *testing.T) {
	r := rand.New(rand.NewSource(10))
	for range 500 {
		tariff, h := randomTariff(r, 5), randomSteps(r, 8)
		from := r.Intn(20)
		to := from + r.Intn(25)
		var want []api.Line
		wantError := api.OK
		for _, x := range tariff {
			amount, e := chargeOf(x.Value, h, from, to)
			if e != api.OK {
				want, wantError = nil, e
				break
			}
			want = append(want, api.Line{Name: x.Name, Amount: amount})
		}
		l, e := ledger.Charge(tariff, h, from, to)
		what := fmt.Sprint("Charge of ", h, from, to, outlines(tariff))
		expect(t, what, e, wantError)
		expectList(t, what, l, want)
	}
}

func TestBills(t *testing.T) {
	l := append(exampleLedger(),
		entry(5, "store", "", "", "Z", 10), entry(5, "store", "", "", "a.1", 10), entry(5, "store", "", "", "w0", 10), entry(5, "issue", "ann", "", "w0", 3), entry(5, "cancel", "ann", "", "w0", 3),
		entry(5, "issue", "ann", "", "a.1", 4), entry(6, "issue", "ann", "", "Z", 2), entry(6, "issue", "bob", "", "w0", 1), entry(7, "cancel", "ann", "", "a.1", 4),
	)
	tariff := []api.Rule{rule("mass", tree("mass")), rule("days", tree("days"))}
	bill := func(holder string, from, to int) []api.Line {
		t.Helper()
		return ok[[]api.Line](t, "Bill")(ledger.Bill(tariff, l, holder, from, to))
	}
	expectList(t, "Bill of ann", bill("ann", 1, 10), lines("Z/mass", "10", "Z/days", "15", "a.1/mass", "8", "a.1/days", "3", "w1/mass", "5300", "w1/days", "55"))
	expectList(t, "Bill of bob", bill("bob", 1, 10), lines("w0/mass", "5", "w0/days", "15", "w1/mass", "4300", "w1/days", "45"))
	expectList(t, "Bill of ann before", bill("ann", 0, 0), lines("Z/mass", "0", "Z/days", "0", "a.1/mass", "0", "a.1/days", "0", "w1/mass", "0", "w1/days", "0"))
	expectList(t, "Bill of the bank", bill("bank", 1, 10), nil)
	expectList(t, "Bill of zoe", bill("zoe", 1, 10), nil)
	large := []api.Rule{rule("a", read(t, string(nines(600))+" + days"))}
	_, e := ledger.Bill(large, l, "ann", 1, 1)
	expect(t, "Bill with a value that is too large", e, api.ErrLarge)
	_, e = ledger.Bill(large, l, "ann", 5, 6)
	expect(t, "Bill with a value that is too large for one grade", e, api.ErrLarge)
	expectList(t, "Bill without a history", ok[[]api.Line](t, "Bill")(ledger.Bill(large, l, "zoe", 1, 9)), nil)
	for _, holder := range []string{"zoe", "ann"} {
		_, e := ledger.Bill(tariff, l, holder, 5, 4)
		expect(t, "Bill of "+holder+" for no days", e, api.ErrDay)
		_, e = ledger.Bill(tariff, l, holder, 1, 4001)
		expect(t, "Bill of "+holder+" for too many days", e, api.ErrLimit)
		_, e = ledger.Bill(tariff, l, holder, 1, 4000)
		expect(t, "Bill of "+holder+" for 4000 days", e, api.OK)
	}
}

func TestBillsAgainstDefinition(t *testing.T) {
	r := rand.New(rand.NewSource(11))
	for range 200 {
		tariff, l := randomTariff(r, 3), randomLedger(r, 1+r.Intn(25))
		from := r.Intn(10)
		to := from + r.Intn(10)
		for _, holder := range []string{"ann", "bob", "zoe"} {
			var want []api.Line
			for _, grade := range []string{"w1", "w2"} {
				h := historyOf(l, holder, grade, l[len(l)-1].Day)
				if len(h) == 0 {
					continue
				}
				for _, line := range ok[[]api.Line](t, "Charge")(ledger.Charge(tariff, h, from, to)) {
					want = append(want, api.Line{Name: grade + "/" + line.Name, Amount: line.Amount})
				}
			}
			expectList(t, fmt.Sprint("Bill ", l, holder, from, to), ok[[]api.Line](t, "Bill")(ledger.Bill(tariff, l, holder, from, to)), want)
		}
	}
}

func TestTotals(t *testing.T) {
	n := string(nines(600))
	for _, x := range []struct {
		l    []api.Line
		want api.Rat
	}{
		{nil, "0"}, {lines("a", "1/2", "b", "-1/3"), "1/6"}, {lines("a", "-5"), "-5"}, {lines("", n), nines(600)}, {lines("", n, "", n, "", "-"+n), nines(600)},
		{lines("", "1/"+n, "", "1/7", "", "-1/7"), "1/" + nines(600)}, {lines("x y", "0", "x y", "3"), "3"},
	} {
		expect(t, fmt.Sprint("Total of ", x.l), ok[api.Rat](t, "Total")(ledger.Total(x.l)), x.want)
	}
	r := rand.New(rand.NewSource(12))
	for _, size := range []int{1, 5, 50, 1000} {
		var l []api.Line
		total := new(big.Rat)
		for range size {
			n := big.NewRat(int64(r.Intn(2001)-1000), int64(1+r.Intn(30)))
			l, total = append(l, api.Line{Amount: api.Rat(n.RatString())}), sum(total, n)
		}
		expect(t, "Total of many lines", ok[api.Rat](t, "Total")(ledger.Total(l)), api.Rat(total.RatString()))
	}
}
