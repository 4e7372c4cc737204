package ledger_test

import (
	"fmt"
	"math"
	"math/rand"
	"slices"
	"strings"
	"testing"

	"bushel/api"
	"bushel/ledger"
)

// P9.9, P1 and P9: what follows from the other promises, and what holds for all functions.

// TestReceiptsNeverExceedStocks checks what holds behind each entry of a ledger.
func TestReceiptsNeverExceedStocks(t *testing.T) {
	r := rand.New(rand.NewSource(13))
	for range 60 {
		l := randomLedger(r, 40)
		before := map[string]int{}
		for i := range l {
			what := fmt.Sprint(l[:i+1])
			sums := map[string]int{}
			for _, a := range ok[[]api.Account](t, what)(ledger.Accounts(l[:i+1], api.MaxDay)) {
				expect(t, "pledged at most what is held "+what, a.Pledged <= a.Mass && a.Pledged >= 0, true)
				sums[a.Grade] += a.Mass
			}
			for _, grade := range []string{"w1", "w2"} {
				stock, receipts, e := ledger.Stock(l[:i+1], api.MaxDay, grade)
				expect(t, "the receipts are the sum of the accounts "+what, []any{receipts, e}, []any{sums[grade], api.OK})
				expect(t, "the receipts are at most the stock "+what, receipts <= stock && stock <= api.MaxMass, true)
				expect(t, "the stock suffices "+what, ledger.Balance(l[:i+1], api.MaxDay, []api.Account{{Grade: "w1", Mass: sums["w1"]}, {Grade: "w2", Mass: sums["w2"]}}), api.OK)
				if kind := l[i].Kind; kind == "transfer" || kind == "pledge" || kind == "release" {
					expect(t, kind+" changes no sum "+what, receipts, before[grade])
				}
				before[grade] = receipts
			}
		}
	}
}

// TestChargesAddUp checks that the charge of a period is the sum of those of its parts.
func TestChargesAddUp(t *testing.T) {
	r := rand.New(rand.NewSource(14))
	for range 200 {
		tariff, h := randomTariff(r, 4), randomSteps(r, 8)
		from := r.Intn(15)
		middle := from + r.Intn(15)
		to := middle + 1 + r.Intn(15)
		charge := func(from, to int) []api.Line {
			return ok[[]api.Line](t, "Charge")(ledger.Charge(tariff, h, from, to))
		}
		all, first, second := charge(from, to), charge(from, middle), charge(middle+1, to)
		for i, line := range all {
			total := ok[api.Rat](t, "Total")(ledger.Total([]api.Line{first[i], second[i]}))
			expect(t, fmt.Sprint("Charge of ", h, from, middle, to, outlines(tariff)), line, api.Line{Name: tariff[i].Name, Amount: total})
		}
	}
}

// TestPrintedTariffsChargeTheSame checks tariffs that are printed and read back.
func TestPrintedTariffsChargeTheSame(t *testing.T) {
	r := rand.New(rand.NewSource(15))
	for range 200 {
		tariff, l := randomTariff(r, 5), randomLedger(r, 20)
		again, _, e := ledger.ReadTariff(ok[string](t, "PrintTariff")(ledger.PrintTariff(tariff)))
		expect(t, "ReadTariff of a printed tariff", e, api.OK)
		expect(t, "a printed tariff", outlines(again), outlines(tariff))
		expectList(t, "the charge of a printed tariff", ok[[]api.Line](t, "Charge")(ledger.Charge(again, exampleSteps(), 0, 20)), ok[[]api.Line](t, "Charge")(ledger.Charge(tariff, exampleSteps(), 0, 20)))
		expectList(t, "the bill of a printed tariff", ok[[]api.Line](t, "Bill")(ledger.Bill(again, l, "ann", 0, 20)), ok[[]api.Line](t, "Bill")(ledger.Bill(tariff, l, "ann", 0, 20)))
	}
}

// TestValuesChangeWithTheirNamesAlone changes what an expression does not depend on.
func TestValuesChangeWithTheirNamesAlone(t *testing.T) {
	r := rand.New(rand.NewSource(16))
	changed := 0
	for range 2000 {
		x := randomExpr(r, 'n', 2+r.Intn(4))
		if _, e := exprError(x); e != api.OK {
			continue
		}
		at := map[string]int{"mass": r.Intn(200), "days": r.Intn(12), "day": r.Intn(12)}
		value := ok[api.Rat](t, "Eval")(ledger.Eval(x, at["mass"], at["days"], at["day"]))
		names := ok[[]string](t, "Changes")(ledger.Changes(x, at["mass"], at["days"], at["day"]))
		what := fmt.Sprint(outline(x), at, names)
		for name := range at {
			if !slices.Contains(names, name) {
				changed++
				at[name] = r.Intn(200)
			}
		}
		expect(t, "Eval of "+what, ok[api.Rat](t, "Eval")(ledger.Eval(x, at["mass"], at["days"], at["day"])), value)
		expectList(t, "Changes of "+what, ok[[]string](t, "Changes")(ledger.Changes(x, at["mass"], at["days"], at["day"])), names)
	}
	if changed < 500 {
		t.Errorf("only %d names were changed", changed)
	}
}

// roomy returns a copy of a list with room behind it.
func roomy[T any](l []T) []T { return append(make([]T, 0, len(l)+9), l...) }

// roomyExpr returns a copy of an expression with room behind all lists.
func roomyExpr(x api.Expr) api.Expr {
	x.Args = roomy(x.Args)
	for i := range x.Args {
		x.Args[i] = roomyExpr(x.Args[i])
	}
	return x
}

// roomyArgs returns a copy of arguments with room behind all lists.
func roomyArgs(a args) args {
	a.entries, a.counted, a.tariff, a.steps, a.lines = roomy(a.entries), roomy(a.counted), roomy(a.tariff), roomy(a.steps), roomy(a.lines)
	a.expr = roomyExpr(a.expr)
	for i := range a.tariff {
		a.tariff[i].Value = roomyExpr(a.tariff[i].Value)
	}
	return a
}

// room returns what is in the room behind a list.
func room[T any](l []T) []T { return l[len(l):cap(l)] }

// roomOfExpr returns what is in the room behind the lists of an expression.
func roomOfExpr(x api.Expr) string {
	behind := fmt.Sprint(room(x.Args))
	for _, operand := range x.Args {
		behind += roomOfExpr(operand)
	}
	return behind
}

// rooms returns what is in the room behind the lists of arguments.
func rooms(a args) string {
	behind := fmt.Sprint(room(a.entries), room(a.counted), room(a.tariff), room(a.steps), room(a.lines)) + roomOfExpr(a.expr)
	for _, r := range a.tariff {
		behind += roomOfExpr(r.Value)
	}
	return behind
}

// fill overwrites a list.
func fill[T any](l []T, x T) {
	for i := range l {
		l[i] = x
	}
}

// spoil overwrites a result.
func spoil(x any) {
	switch x := x.(type) {
	case []api.Account:
		fill(x, api.Account{Mass: -99})
	case []api.Entry:
		fill(x, api.Entry{Mass: -99})
	case []api.Step:
		fill(x, api.Step{Mass: -99})
	case []api.Line:
		fill(x, api.Line{Name: "spoilt"})
	case []string:
		fill(x, "spoilt")
	case []api.Rule:
		for _, r := range x {
			spoil(r.Value)
		}
		fill(x, api.Rule{Name: "spoilt"})
	case api.Expr:
		for _, operand := range x.Args {
			spoil(operand)
		}
		fill(x.Args, api.Expr{Op: "spoilt"})
	}
}

// TestArgumentsStayAsTheyAre checks that no function changes its arguments, nor the room behind them, and that each one returns the same results again.
func TestArgumentsStayAsTheyAre(t *testing.T) {
	for name, f := range calls() {
		a := roomyArgs(goodArgs())
		before, behind := roomyArgs(a), rooms(a)
		first, e := f(a)
		expect(t, name, e, api.OK)
		second, _ := f(a)
		expect(t, name+" again", second, first)
		for _, x := range first {
			spoil(x)
		}
		third, _ := f(before)
		expect(t, name+": the arguments", fmt.Sprint(a), fmt.Sprint(before))
		expect(t, name+": another result", second, third)
		expect(t, name+": the room behind arguments", rooms(a), behind)
	}
}

// grow appends to all lists of an expression.
func grow(x api.Expr) {
	for i, operand := range x.Args {
		grow(operand)
		_ = append(operand.Args, api.Expr{Op: fmt.Sprint("more ", i)})
	}
}

// TestListsOfResultsShareNoMemory checks the operands of expressions that have been read, also what is appended to them.
func TestListsOfResultsShareNoMemory(t *testing.T) {
	text := "min(1 + 2 - 3, -4) * floor(5) + (if 6 < 7 and not 8 = 9 then mass else max(days, day))"
	for _, tariff := range []string{"a: " + text + "\nb: " + text, "a:" + text} {
		rules, _, e := ledger.ReadTariff(tariff)
		expect(t, "ReadTariff", e, api.OK)
		before := outlines(rules)
		for _, r := range rules {
			grow(r.Value)
		}
		expect(t, "the expressions", outlines(rules), before)
		if len(rules) == 2 {
			spoil(rules[0].Value)
			expectTree(t, "the second expression", rules[1].Value, read(t, text))
		}
	}
}

// disturb makes one of the arguments any value.
func disturb(r *rand.Rand, a *args) {
	n := []int{math.MinInt, -1, 0, 1, 2, 3, 4, 12, 400, 500, 4000, api.MaxDay, api.MaxDay + 1, api.MaxMass, api.MaxMass + 1, math.MaxInt}[r.Intn(16)]
	name := []string{"", "ann", "bob", "w1", "w2", "bank", "a b", "Ä", strings.Repeat("q", 24), strings.Repeat("q", 25), "store", "fee"}[r.Intn(12)]
	kind := []string{"store", "ship", "issue", "cancel", "transfer", "pledge", "release", "", "Ship"}[r.Intn(9)]
	amount := []api.Rat{"", "0", "-1", "1", "1/3", "2/6", nines(600), nines(601), "-" + nines(600), "1/" + nines(600), "x"}[r.Intn(11)]
	length := []int{0, 1, 2, 16, 17, 256, 257, 1000, 1001}[r.Intn(9)]
	x := []api.Expr{{}, endless("+"), sized(4097), nested(32, num("1")), num(amount), tree("mass"), tree("=", num("1"), tree("day")), spoilt(r, exampleExpr()), randomExpr(r, 'n', 3), randomExpr(r, 'n', 5)}[r.Intn(10)]
	piece := []string{"", "&", "2/4", "1 = 2", "\n", ":", " + ", strings.Repeat("-", 40), strings.Repeat(" ", 5000), strings.Repeat("\n", api.MaxLog), "a: 1\n", "mass"}[r.Intn(12)]
	i, k := r.Intn(5), r.Intn(2)
	changes := []func(){
		func() { a.entry.Day = n }, func() { a.entry.Kind = kind }, func() { a.entry.Holder = name }, func() { a.entry.Other = name }, func() { a.entry.Grade = name }, func() { a.entry.Mass = n },
		func() { a.entries = make([]api.Entry, length) }, func() { a.entries = a.entries[:i] }, func() { a.entries[i].Day = n }, func() { a.entries[i].Kind = kind },
		func() { a.entries[i].Holder = name }, func() { a.entries[i].Other = name }, func() { a.entries[i].Grade = name }, func() { a.entries[i].Mass = n },
		func() { a.day = n }, func() { a.day = n }, func() { a.holder = name }, func() { a.grade = name }, func() { a.holder = name }, func() { a.grade = name },
		func() { a.counted = make([]api.Account, length) }, func() { a.counted[k] = api.Account{Grade: name, Mass: n} }, func() { a.counted[k].Holder = name }, func() { a.counted[k].Pledged = n }, func() { a.counted[k].Mass = n },
		func() { a.expr = x }, func() { a.expr = x }, func() { a.expr.Op = kind }, func() { a.expr.Args[k] = x }, func() { a.expr.Args = a.expr.Args[:k] }, func() { a.expr.Value = amount },
		func() { a.text = piece + a.text }, func() { a.text += piece }, func() { a.text = a.text[:i] + piece + a.text[i:] }, func() { a.tariffText = piece + a.tariffText }, func() { a.tariffText += piece },
		func() { a.tariff = make([]api.Rule, length) }, func() { a.tariff[k].Name = name }, func() { a.tariff[k].Value = x }, func() { a.tariff = a.tariff[:k] },
		func() { a.steps = make([]api.Step, length) }, func() { a.steps[k].Day = n }, func() { a.steps[k].Mass = n }, func() { a.steps = a.steps[:k] },
		func() { a.mass = n }, func() { a.days = n }, func() { a.from = n }, func() { a.to = n },
		func() { a.lines = make([]api.Line, length) }, func() { a.lines[k].Amount = amount }, func() { a.lines[k].Name = name },
	}
	changes[r.Intn(len(changes))]()
}

// TestAllArguments checks that all functions return for arguments of any form.
func TestAllArguments(t *testing.T) {
	r := rand.New(rand.NewSource(17))
	codes := map[api.Errno]int{}
	for range 2000 {
		a := roomyArgs(goodArgs())
		for range 1 + r.Intn(4) {
			func() {
				// Some changes need what others have removed.
				defer func() { _ = recover() }()
				disturb(r, &a)
			}()
		}
		for name, f := range calls() {
			_, e := f(a)
			codes[e]++
			if e != api.OK {
				expectError(t, name, name, a, e)
			}
		}
	}
	for _, e := range []api.Errno{
		api.OK, api.ErrForm, api.ErrShape, api.ErrRange, api.ErrLarge, api.ErrMany, api.ErrName, api.ErrTwice, api.ErrOrder, api.ErrEmpty,
		api.ErrLimit, api.ErrKind, api.ErrSyntax, api.ErrType, api.ErrLong, api.ErrBalance, api.ErrDay,
	} {
		if codes[e] == 0 {
			t.Errorf("no function returned the error %d", e)
		}
	}
}

// TestNoArguments checks the zero values of all arguments.
func TestNoArguments(t *testing.T) {
	want := map[string]api.Errno{
		"CheckEntry": api.ErrKind, "Held": api.ErrName, "Stock": api.ErrName, "History": api.ErrName, "Bill": api.ErrName,
		"CheckExpr": api.ErrKind, "Print": api.ErrKind, "Eval": api.ErrKind, "Changes": api.ErrKind, "Read": api.ErrSyntax,
	}
	for name, f := range calls() {
		_, e := f(args{})
		expect(t, name+" of nothing", e, want[name])
	}
}
