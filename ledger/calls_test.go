package ledger_test

import (
	"fmt"
	"math"
	"reflect"
	"slices"
	"strings"
	"testing"

	"bushel/api"
	"bushel/ledger"
)

// args are arguments of all functions.
type args struct {
	entry      api.Entry
	entries    []api.Entry
	day        int
	holder     string
	grade      string
	counted    []api.Account
	expr       api.Expr
	text       string
	tariff     []api.Rule
	tariffText string
	steps      []api.Step
	mass       int
	days       int
	from       int
	to         int
	lines      []api.Line
}

// goodArgs returns arguments with which no function returns an error: those of the document's examples.
func goodArgs() args {
	return args{
		entry: exampleLedger()[3], entries: exampleLedger(), day: 4, holder: "ann", grade: "w1", counted: []api.Account{{Grade: "w1", Mass: 1000}, {Grade: "w2"}},
		expr: exampleExpr(), text: exampleText, tariff: exampleTariff(), tariffText: "store: " + exampleText + "\nfee: floor(mass / 7)\n", steps: exampleSteps(),
		mass: 600, days: 11, from: 1, to: 12, lines: []api.Line{{Name: "a", Amount: "1/2"}, {Name: "b", Amount: "-1/3"}},
	}
}

// call calls a function, and returns its results as a list and its error. The places of errors are no results.
type call func(a args) ([]any, api.Errno)

// one makes a call of a function with one result beside its error.
func one[T any](f func(a args) (T, api.Errno)) call {
	return func(a args) ([]any, api.Errno) {
		x, e := f(a)
		return []any{x}, e
	}
}

// two makes a call of a function with two results beside its error.
func two[T, U any](f func(a args) (T, U, api.Errno)) call {
	return func(a args) ([]any, api.Errno) {
		x, y, e := f(a)
		return []any{x, y}, e
	}
}

// bare makes a call of a function that returns an error alone.
func bare(f func(a args) api.Errno) call {
	return func(a args) ([]any, api.Errno) { return nil, f(a) }
}

// calls has a call of each function of the package.
func calls() map[string]call {
	return map[string]call{
		"CheckEntry": bare(func(a args) api.Errno { return ledger.CheckEntry(a.entry) }),
		"Check": bare(func(a args) api.Errno {
			_, e := ledger.Check(a.entries)
			return e
		}),
		"Accounts": one(func(a args) ([]api.Account, api.Errno) { return ledger.Accounts(a.entries, a.day) }),
		"Held":     two(func(a args) (int, int, api.Errno) { return ledger.Held(a.entries, a.day, a.holder, a.grade) }),
		"Pledges":  one(func(a args) ([]api.Entry, api.Errno) { return ledger.Pledges(a.entries, a.day) }),
		"Stock":    two(func(a args) (int, int, api.Errno) { return ledger.Stock(a.entries, a.day, a.grade) }),
		"Balance":  bare(func(a args) api.Errno { return ledger.Balance(a.entries, a.day, a.counted) }),
		"History":  one(func(a args) ([]api.Step, api.Errno) { return ledger.History(a.entries, a.holder, a.grade) }),
		"CheckExpr": one(func(a args) (string, api.Errno) {
			return ledger.CheckExpr(a.expr)
		}),
		"Print": one(func(a args) (string, api.Errno) { return ledger.Print(a.expr) }),
		"Read": one(func(a args) (api.Expr, api.Errno) {
			x, _, e := ledger.Read(a.text)
			return x, e
		}),
		"CheckTariff": bare(func(a args) api.Errno { return ledger.CheckTariff(a.tariff) }),
		"PrintTariff": one(func(a args) (string, api.Errno) { return ledger.PrintTariff(a.tariff) }),
		"ReadTariff": one(func(a args) ([]api.Rule, api.Errno) {
			t, _, e := ledger.ReadTariff(a.tariffText)
			return t, e
		}),
		"CheckSteps": bare(func(a args) api.Errno { return ledger.CheckSteps(a.steps) }),
		"Eval":       one(func(a args) (api.Rat, api.Errno) { return ledger.Eval(a.expr, a.mass, a.days, a.day) }),
		"Charge":     one(func(a args) ([]api.Line, api.Errno) { return ledger.Charge(a.tariff, a.steps, a.from, a.to) }),
		"Bill": one(func(a args) ([]api.Line, api.Errno) {
			return ledger.Bill(a.tariff, a.entries, a.holder, a.from, a.to)
		}),
		"Total":   one(func(a args) (api.Rat, api.Errno) { return ledger.Total(a.lines) }),
		"Changes": one(func(a args) ([]string, api.Errno) { return ledger.Changes(a.expr, a.mass, a.days, a.day) }),
	}
}

// fault is a change of arguments that causes an error.
type fault struct {
	what   string
	e      api.Errno
	change func(a *args)
}

// expectErrors checks that a function returns the error of each fault, alone and together with all those behind it, and nothing beside it.
func expectErrors(t *testing.T, name string, faults ...fault) {
	t.Helper()
	_, e := calls()[name](goodArgs())
	expect(t, name+" of good arguments", e, api.OK)
	for i, f := range faults {
		a := goodArgs()
		f.change(&a)
		expectError(t, name+": "+f.what, name, a, f.e)
		a = goodArgs()
		for _, later := range slices.Backward(faults[i:]) {
			later.change(&a)
		}
		expectError(t, name+": "+f.what+" and more", name, a, f.e)
	}
}

// expectError checks that a function returns an error, and nothing beside it.
func expectError(t *testing.T, what, name string, a args, want api.Errno) {
	t.Helper()
	results, e := calls()[name](a)
	expect(t, what, e, want)
	for _, x := range results {
		if v := reflect.ValueOf(x); !v.IsZero() && (v.Kind() != reflect.Slice || v.Len() > 0) {
			t.Errorf("%.300s: %v beside an error", what, x)
		}
	}
}

// badEntry is an entry with an error.
type badEntry struct {
	what   string
	e      api.Errno
	change func(e *api.Entry)
}

// badEntries are the errors of CheckEntry, in their order, of a pledge of ann to bank.
func badEntries() []badEntry {
	long := strings.Repeat("a", 25)
	day := func(n int) func(e *api.Entry) { return func(e *api.Entry) { e.Day = n } }
	kind := func(s string) func(e *api.Entry) { return func(e *api.Entry) { e.Kind = s } }
	names := func(holder, other, grade string) func(e *api.Entry) {
		return func(e *api.Entry) { e.Kind, e.Holder, e.Other, e.Grade = "pledge", holder, other, grade }
	}
	mass := func(n int) func(e *api.Entry) { return func(e *api.Entry) { e.Mass = n } }
	unused := func(kind, holder, other string) func(e *api.Entry) {
		return func(e *api.Entry) { e.Kind, e.Holder, e.Other = kind, holder, other }
	}
	return []badEntry{
		{"a negative day", api.ErrDay, day(-1)},
		{"the least day", api.ErrDay, day(math.MinInt)},
		{"a day behind the last one", api.ErrDay, day(api.MaxDay + 1)},
		{"no kind", api.ErrKind, kind("")},
		{"another kind", api.ErrKind, kind("Store")},
		{"a kind and more", api.ErrKind, kind("store ")},
		{"no holder", api.ErrName, names("", "", "")},
		{"a holder that is no name", api.ErrName, names("a b", "a b", "w1")},
		{"a holder that is too long", api.ErrName, names(long, "bank", "w1")},
		{"no other one", api.ErrName, names("ann", "", "w1")},
		{"another one that is no name", api.ErrName, names("ann", "bänk", "w1")},
		{"no grade", api.ErrName, names("ann", "ann", "")},
		{"a grade that is no name", api.ErrName, names("ann", "ann", "w/1")},
		{"the same holder", api.ErrTwice, names("ann", "ann", "w1")},
		{"no mass", api.ErrRange, mass(0)},
		{"a negative mass", api.ErrRange, mass(-1)},
		{"the least mass", api.ErrRange, mass(math.MinInt)},
		{"a mass that is too great", api.ErrRange, mass(api.MaxMass + 1)},
		{"the holder of what is stored", api.ErrForm, unused("store", "ann", "")},
		{"the other one of what is shipped", api.ErrForm, unused("ship", "", "bank")},
		{"the other one of an issue", api.ErrForm, unused("issue", "ann", "bank")},
		{"the other one of what is cancelled", api.ErrForm, unused("cancel", "ann", "not a name")},
	}
}

// entryFaults are the errors of CheckEntry, in their order.
func entryFaults() []fault {
	var l []fault
	for _, bad := range badEntries() {
		l = append(l, fault{bad.what, bad.e, func(a *args) { bad.change(&a.entry) }})
	}
	return l
}

// ledgerFaults are the errors of Check, in their order, as far as one entry can have several.
func ledgerFaults() []fault {
	set := func(l ...api.Entry) func(a *args) { return func(a *args) { a.entries = l } }
	l := []fault{{"too many entries", api.ErrMany, set(slices.Repeat([]api.Entry{{Day: -1}}, 1001)...)}}
	for _, bad := range badEntries() {
		l = append(l, fault{bad.what, bad.e, func(a *args) {
			if len(a.entries) != 5 {
				a.entries = exampleLedger()
			}
			a.entries[3].Day = 0
			bad.change(&a.entries[3])
			a.entries[4] = entry(-1, "", "", "", "", -1)
		}})
	}
	store := entry(3, "store", "", "", "w1", 10)
	return append(l,
		fault{"days that descend", api.ErrDay, set(store, entry(2, "ship", "", "", "w1", 20), api.Entry{})},
		fault{"a stock that is too great", api.ErrFull, set(store, entry(3, "store", "", "", "w1", api.MaxMass-9), api.Entry{})},
		fault{"a stock that is too small", api.ErrEmpty, set(store, entry(3, "ship", "", "", "w1", 11))},
		fault{"a stock of another grade", api.ErrEmpty, set(store, entry(3, "ship", "", "", "w2", 1))},
		fault{"more receipts than stock", api.ErrBalance, set(store, entry(3, "issue", "ann", "", "w1", 11))},
		fault{"nothing to transfer", api.ErrEmpty, set(store, entry(3, "transfer", "ann", "bob", "w1", 1))},
		fault{"nothing to release", api.ErrEmpty, set(store, entry(3, "release", "ann", "bob", "w1", 1))},
	)
}

// dayFaults are the errors of a day.
func dayFaults() []fault {
	day := func(n int) func(a *args) { return func(a *args) { a.day = n } }
	return []fault{
		{"a negative day", api.ErrDay, day(-1)},
		{"the least day", api.ErrDay, day(math.MinInt)},
		{"a day behind the last one", api.ErrDay, day(api.MaxDay + 1)},
		{"the greatest day", api.ErrDay, day(math.MaxInt)},
	}
}

// nameFaults are errors of a holder or a grade.
func nameFaults(place func(a *args) *string) []fault {
	var l []fault
	for _, name := range []string{"", "a b", "ann\n", "é", strings.Repeat("a", 25)} {
		l = append(l, fault{fmt.Sprintf("the name %q", name), api.ErrName, func(a *args) { *place(a) = name }})
	}
	return l
}

// holderOf and gradeOf return where arguments have these names.
func holderOf(a *args) *string { return &a.holder }

func gradeOf(a *args) *string { return &a.grade }

// exprFaults are the errors of CheckExpr.
func exprFaults() []fault {
	var l []fault
	for _, bad := range badExprs() {
		l = append(l, fault{bad.what, bad.e, func(a *args) { a.expr = bad.x }})
	}
	return l
}

// situationFaults are the errors of an expression that is to be evaluated, behind those of CheckExpr.
func situationFaults() []fault {
	set := func(mass, days, day int) func(a *args) {
		return func(a *args) { a.mass, a.days, a.day = mass, days, day }
	}
	return []fault{
		{"a condition", api.ErrType, func(a *args) { a.expr = tree("<", num("1"), num("2")) }},
		{"a negative mass", api.ErrRange, set(-1, 0, 0)},
		{"the least mass", api.ErrRange, set(math.MinInt, 0, 0)},
		{"a mass that is too great", api.ErrRange, set(api.MaxMass+1, 0, 0)},
		{"negative days", api.ErrRange, set(0, -1, 0)},
		{"too many days", api.ErrRange, set(0, api.MaxDay+2, 0)},
		{"a negative day", api.ErrRange, set(0, 0, -1)},
		{"a day behind the last one", api.ErrRange, set(0, 0, api.MaxDay+1)},
		{"a value that is too large", api.ErrLarge, func(a *args) { a.expr = tree("+", tree("mass"), tree("+", num(nines(600)), num("1"))) }},
	}
}

// tariffFaults are the errors of CheckTariff, in their order.
func tariffFaults() []fault {
	second := func(name string, x api.Expr) func(a *args) {
		return func(a *args) { a.tariff = []api.Rule{rule("store", num("1")), rule(name, x), {}} }
	}
	bad := api.Expr{}
	l := []fault{{"too many rules", api.ErrMany, func(a *args) { a.tariff = make([]api.Rule, 17) }}}
	for _, name := range []string{"", "Fee", "fee1", "a fee", "fee:", "fée", strings.Repeat("a", 25)} {
		l = append(l, fault{fmt.Sprintf("the name %q", name), api.ErrName, second(name, bad)})
	}
	l = append(l, fault{"a rule twice", api.ErrTwice, second("store", bad)})
	for _, b := range badExprs() {
		l = append(l, fault{b.what, b.e, second("fee", b.x)})
	}
	return append(l, fault{"a condition", api.ErrType, second("fee", tree("=", num("1"), num("1")))})
}

// stepsFaults are the errors of CheckSteps, in their order.
func stepsFaults() []fault {
	set := func(l ...api.Step) func(a *args) { return func(a *args) { a.steps = l } }
	return []fault{
		{"too many steps", api.ErrMany, set(make([]api.Step, 1001)...)},
		{"a negative day", api.ErrDay, set(step(1, 5), step(-1, 5), step(-1, -1))},
		{"a day behind the last one", api.ErrDay, set(step(1, 5), step(api.MaxDay+1, -1))},
		{"the same day", api.ErrOrder, set(step(1, 5), step(1, -1), step(-1, -1))},
		{"an earlier day", api.ErrOrder, set(step(2, 5), step(1, 5), step(-1, -1))},
		{"a negative mass", api.ErrRange, set(step(1, 5), step(2, -1), step(2, -1))},
		{"a first mass that is negative", api.ErrRange, set(step(0, -1))},
		{"a mass that is too great", api.ErrRange, set(step(1, api.MaxMass+1))},
		{"the same mass", api.ErrTwice, set(step(1, 5), step(2, 5), step(2, -1))},
		{"a first mass of 0", api.ErrTwice, set(step(1, 0))},
		{"no mass twice", api.ErrTwice, set(step(1, 5), step(2, 0), step(3, 0))},
	}
}

// periodFaults are the errors of the days of a charge.
func periodFaults() []fault {
	set := func(from, to int) func(a *args) { return func(a *args) { a.from, a.to = from, to } }
	return []fault{
		{"a negative from", api.ErrDay, set(-1, 5)},
		{"the least from", api.ErrDay, set(math.MinInt, math.MaxInt)},
		{"a to behind the last day", api.ErrDay, set(api.MaxDay, api.MaxDay+1)},
		{"a from behind the last day", api.ErrDay, set(api.MaxDay+1, api.MaxDay+1)},
		{"a negative to", api.ErrDay, set(0, -1)},
		{"a from above to", api.ErrDay, set(6, 5)},
		{"too many days", api.ErrLimit, set(0, 4000)},
		{"all days", api.ErrLimit, set(0, api.MaxDay)},
	}
}

// lineFaults are the errors of Total, in their order.
func lineFaults() []fault {
	amounts := func(l ...api.Rat) func(a *args) {
		return func(a *args) {
			a.lines = nil
			for _, amount := range l {
				a.lines = append(a.lines, api.Line{Name: "any name", Amount: amount})
			}
		}
	}
	return []fault{
		{"too many lines", api.ErrMany, func(a *args) { a.lines = make([]api.Line, 1001) }},
		{"no number", api.ErrForm, amounts("1", "", nines(601))},
		{"a number that is not in lowest terms", api.ErrForm, amounts("1", "2/4", nines(601))},
		{"a number that is too long", api.ErrLarge, amounts("-"+nines(601), "x")},
		{"a sum that is too long", api.ErrLarge, amounts(nines(600), "1")},
	}
}

func TestErrorsOfEntriesAndLedgers(t *testing.T) {
	expectErrors(t, "CheckEntry", entryFaults()...)
	ledgers := ledgerFaults()
	expectErrors(t, "Check", ledgers...)
	expectErrors(t, "Accounts", slices.Concat(ledgers, dayFaults())...)
	expectErrors(t, "Held", slices.Concat(ledgers, dayFaults(), nameFaults(holderOf), nameFaults(gradeOf))...)
	expectErrors(t, "Pledges", slices.Concat(ledgers, dayFaults())...)
	expectErrors(t, "Stock", slices.Concat(ledgers, dayFaults(), nameFaults(gradeOf))...)
	expectErrors(t, "History", slices.Concat(ledgers, nameFaults(holderOf), nameFaults(gradeOf))...)
	expectErrors(t, "Balance", slices.Concat(ledgers, dayFaults(), countedFaults())...)
}

// countedFaults are the errors of counted stocks, in their order.
func countedFaults() []fault {
	second := func(x api.Account) func(a *args) {
		return func(a *args) { a.counted = []api.Account{{Grade: "w2"}, x, {Holder: "ann"}} }
	}
	all := func(l ...api.Account) func(a *args) { return func(a *args) { a.counted = l } }
	return []fault{
		{"too many accounts", api.ErrMany, all(slices.Repeat([]api.Account{{Holder: "ann"}}, 257)...)},
		{"a holder", api.ErrForm, second(api.Account{Holder: "ann", Mass: -1})},
		{"what is pledged", api.ErrForm, second(api.Account{Pledged: 1, Mass: -1})},
		{"less than nothing pledged", api.ErrForm, second(api.Account{Grade: "w2", Pledged: -1, Mass: -1})},
		{"no grade", api.ErrName, second(api.Account{Mass: -1})},
		{"a grade that is no name", api.ErrName, second(api.Account{Grade: "w 1", Mass: -1})},
		{"a grade twice", api.ErrTwice, second(api.Account{Grade: "w2", Mass: -1})},
		{"a negative mass", api.ErrRange, second(api.Account{Grade: "w1", Mass: -1})},
		{"a mass that is too great", api.ErrRange, second(api.Account{Grade: "w1", Mass: api.MaxMass + 1})},
		{"a bad account behind one that is too small", api.ErrName, all(api.Account{Grade: "w1", Mass: 999}, api.Account{})},
		{"nothing counted", api.ErrBalance, all()},
		{"another grade alone", api.ErrBalance, all(api.Account{Grade: "w2", Mass: 5000})},
		{"less than the receipts", api.ErrBalance, all(api.Account{Grade: "w1", Mass: 999})},
	}
}

func TestErrorsOfExpressionsAndTariffs(t *testing.T) {
	exprs := exprFaults()
	expectErrors(t, "CheckExpr", exprs...)
	expectErrors(t, "Print", append(exprs, fault{"a text that is too long", api.ErrLong, func(a *args) { a.expr = sized(api.MaxText + 1) }})...)
	expectErrors(t, "Eval", slices.Concat(exprs, situationFaults())...)
	expectErrors(t, "Changes", slices.Concat(exprs, situationFaults())...)
	tariffs := tariffFaults()
	expectErrors(t, "CheckTariff", tariffs...)
	expectErrors(t, "PrintTariff", append(tariffs, fault{"a text that is too long", api.ErrLong, func(a *args) {
		a.tariff = []api.Rule{rule("a", num("1")), rule("b", sized(api.MaxText+1))}
	}})...)
	large := func(a *args) {
		a.tariff = []api.Rule{rule("a", num("1")), rule("b", tree("*", tree("day"), num(nines(600))))}
	}
	expectErrors(t, "Charge", slices.Concat(tariffs, stepsFaults(), periodFaults(), []fault{{"a value that is too large", api.ErrLarge, large}})...)
	expectErrors(t, "Bill", slices.Concat(tariffs, ledgerFaults(), nameFaults(holderOf), periodFaults(), []fault{{"a value that is too large", api.ErrLarge, large}})...)
	expectErrors(t, "CheckSteps", stepsFaults()...)
	expectErrors(t, "Total", lineFaults()...)
}

// TestSingleErrors checks errors of which nothing else in the arguments has one.
func TestSingleErrors(t *testing.T) {
	for i := range exampleLedger() {
		for _, bad := range badEntries() {
			a := goodArgs()
			a.entries = a.entries[:i+1]
			bad.change(&a.entries[i])
			want := entryError(a.entries[i])
			if want == api.OK {
				continue
			}
			for _, name := range []string{"Check", "Accounts", "Held", "Pledges", "Stock", "Balance", "History", "Bill"} {
				expectError(t, fmt.Sprintf("%s with %s in the entry %d", name, bad.what, i), name, a, want)
			}
		}
	}
	for _, bad := range badExprs() {
		a := goodArgs()
		a.tariff = []api.Rule{rule("a", bad.x)}
		for _, name := range []string{"CheckTariff", "PrintTariff", "Charge", "Bill"} {
			expectError(t, name+" with "+bad.what, name, a, bad.e)
		}
	}
	for _, h := range [][]api.Step{{step(-1, 5)}, {step(5, 5), step(4, 6)}, {step(5, -5)}, {step(5, 5), step(6, 5)}} {
		a := goodArgs()
		a.steps = h
		expectError(t, fmt.Sprint("Charge of ", h), "Charge", a, ledger.CheckSteps(h))
		expect(t, fmt.Sprint("CheckSteps of ", h), ledger.CheckSteps(h) != api.OK, true)
	}
}
