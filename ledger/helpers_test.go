package ledger_test

import (
	"fmt"
	"math/big"
	"math/rand"
	"reflect"
	"regexp"
	"slices"
	"strings"
	"testing"

	"bushel/api"
)

// expect reports a result that is not the expected one.
func expect(t *testing.T, what string, got, want any) {
	t.Helper()
	if !reflect.DeepEqual(got, want) {
		t.Errorf("%.600s: got %.300s, want %.300s", what, fmt.Sprint(got), fmt.Sprint(want))
	}
}

// expectList reports a list that is not the expected one; nil and empty lists are equal.
func expectList[T any](t *testing.T, what string, got, want []T) {
	t.Helper()
	if len(got) > 0 || len(want) > 0 {
		expect(t, what, got, want)
	}
}

// expectTree reports an expression that is not the expected one; nil and empty lists of operands are equal.
func expectTree(t *testing.T, what string, got, want api.Expr) {
	t.Helper()
	expect(t, what, outline(got), outline(want))
}

// outline writes an expression with all its parts.
func outline(x api.Expr) string {
	var operands []string
	for _, operand := range x.Args {
		operands = append(operands, outline(operand))
	}
	return fmt.Sprintf("%q %q [%s]", x.Op, string(x.Value), strings.Join(operands, "; "))
}

// ok returns a result that has no error.
func ok[T any](t *testing.T, what string) func(T, api.Errno) T {
	return func(x T, e api.Errno) T {
		t.Helper()
		if e != api.OK {
			t.Fatalf("%.600s: error %d", what, e)
		}
		return x
	}
}

// nines returns the greatest number with so many digits.
func nines(digits int) api.Rat { return api.Rat(strings.Repeat("9", digits)) }

// power returns 1 with so many zeros behind it.
func power(zeros int) api.Rat { return "1" + api.Rat(strings.Repeat("0", zeros)) }

// toBig returns a number of math/big, which is the judge of these tests.
func toBig(a api.Rat) *big.Rat {
	r, ok := new(big.Rat).SetString(string(a))
	if !ok {
		panic("not a number: " + string(a))
	}
	return r
}

// isShort reports whether a number keeps to the limit of digits.
func isShort(r *big.Rat) bool {
	return len(new(big.Int).Abs(r.Num()).String()) <= api.MaxDigits && len(r.Denom().String()) <= api.MaxDigits
}

// result returns what a number is as a result, by the limit of digits.
func result(r *big.Rat) (api.Rat, api.Errno) {
	if !isShort(r) {
		return "", api.ErrLarge
	}
	return api.Rat(r.RatString()), api.OK
}

// whole returns an integer as a number.
func whole(n int) *big.Rat { return big.NewRat(int64(n), 1) }

// sum returns a sum of numbers.
func sum(l ...*big.Rat) *big.Rat {
	s := new(big.Rat)
	for _, n := range l {
		s.Add(s, n)
	}
	return s
}

// entry returns an entry.
func entry(day int, kind, holder, other, grade string, mass int) api.Entry {
	return api.Entry{Day: day, Kind: kind, Holder: holder, Other: other, Grade: grade, Mass: mass}
}

// exampleLedger is the ledger of the document's first example, without what is refused.
func exampleLedger() []api.Entry {
	return []api.Entry{
		entry(1, "store", "", "", "w1", 1000), entry(1, "issue", "ann", "", "w1", 600), entry(2, "issue", "bob", "", "w1", 400),
		entry(3, "pledge", "ann", "bank", "w1", 500), entry(4, "transfer", "ann", "bob", "w1", 100),
	}
}

// step returns a step of a history.
func step(day, mass int) api.Step { return api.Step{Day: day, Mass: mass} }

// exampleSteps is the history of the document's examples.
func exampleSteps() []api.Step { return []api.Step{step(1, 600), step(4, 500)} }

// num returns the expression of a number.
func num(a api.Rat) api.Expr { return api.Expr{Op: "number", Value: a} }

// tree returns an expression with operands.
func tree(op string, operands ...api.Expr) api.Expr { return api.Expr{Op: op, Args: operands} }

// exampleExpr is the expression of the document's examples.
func exampleExpr() api.Expr {
	return tree("if", tree("<", num("10"), tree("days")), tree("*", tree("mass"), num("1/1000")), num("0"))
}

// exampleText is the printed text of the expression.
const exampleText = "if 10 < days then mass * 1/1000 else 0"

// rule returns a rule.
func rule(name string, x api.Expr) api.Rule { return api.Rule{Name: name, Value: x} }

// exampleTariff is a tariff with two rules.
func exampleTariff() []api.Rule {
	return []api.Rule{rule("store", exampleExpr()), rule("fee", tree("floor", tree("/", tree("mass"), num("7"))))}
}

// The definitions of the chapter, in its own words as far as possible.

// accounts are the sums of the entries of a ledger.
type accounts struct {
	stock, receipts map[string]int
	held, pledged   map[[2]string]int
	pledges         map[[3]string]int
}

// accountsOf returns the sums of entries.
func accountsOf(l []api.Entry) accounts {
	a := accounts{map[string]int{}, map[string]int{}, map[[2]string]int{}, map[[2]string]int{}, map[[3]string]int{}}
	for _, e := range l {
		from, to, pledge := [2]string{e.Holder, e.Grade}, [2]string{e.Other, e.Grade}, [3]string{e.Holder, e.Other, e.Grade}
		switch e.Kind {
		case "store":
			a.stock[e.Grade] += e.Mass
		case "ship":
			a.stock[e.Grade] -= e.Mass
		case "issue":
			a.held[from] += e.Mass
		case "cancel":
			a.held[from] -= e.Mass
		case "transfer":
			a.held[from] -= e.Mass
			a.held[to] += e.Mass
		case "pledge":
			a.pledged[from] += e.Mass
			a.pledges[pledge] += e.Mass
		case "release":
			a.pledged[from] -= e.Mass
			a.pledges[pledge] -= e.Mass
		}
	}
	for o, mass := range a.held {
		a.receipts[o[1]] += mass
	}
	return a
}

// refusal returns why an entry behind others is refused, or OK.
func refusal(l []api.Entry, e api.Entry) api.Errno {
	before := accountsOf(l)
	after := accountsOf(append(slices.Clone(l), e))
	from := [2]string{e.Holder, e.Grade}
	isShort := after.held[from] < after.pledged[from]
	switch {
	case e.Kind == "store" && after.stock[e.Grade] > api.MaxMass:
		return api.ErrFull
	case e.Kind == "ship" && before.stock[e.Grade] < e.Mass, e.Kind == "release" && before.pledges[[3]string{e.Holder, e.Other, e.Grade}] < e.Mass:
		return api.ErrEmpty
	case e.Kind != "store" && e.Kind != "ship" && e.Kind != "issue" && e.Kind != "release" && isShort:
		return api.ErrEmpty
	case after.stock[e.Grade] < after.receipts[e.Grade]:
		return api.ErrBalance
	}
	return api.OK
}

// namePattern is that of a name.
var namePattern = regexp.MustCompile(`\A[a-zA-Z0-9._-]{1,24}\z`)

// isName reports whether a text is a name.
func isName(s string) bool { return namePattern.MatchString(s) }

// entryError returns the error of an entry by itself.
func entryError(e api.Entry) api.Errno {
	fields, exists := map[string]string{
		"store": "", "ship": "", "issue": "Holder", "cancel": "Holder", "transfer": "Holder, Other", "pledge": "Holder, Other", "release": "Holder, Other",
	}[e.Kind]
	hasHolder, hasOther := strings.Contains(fields, "Holder"), strings.Contains(fields, "Other")
	switch {
	case e.Day < 0 || e.Day > 100000:
		return api.ErrDay
	case !exists:
		return api.ErrKind
	case hasHolder && !isName(e.Holder), hasOther && !isName(e.Other), !isName(e.Grade):
		return api.ErrName
	case hasOther && e.Other == e.Holder:
		return api.ErrTwice
	case e.Mass < 1 || e.Mass > 999999999:
		return api.ErrRange
	case !hasHolder && e.Holder != "", !hasOther && e.Other != "":
		return api.ErrForm
	}
	return api.OK
}

// ledgerError returns how many entries are without an error, and the error of the next one.
func ledgerError(l []api.Entry) (int, api.Errno) {
	for i, e := range l {
		if found := entryError(e); found != api.OK {
			return i, found
		}
		if i > 0 && e.Day < l[i-1].Day {
			return i, api.ErrDay
		}
		if found := refusal(l[:i], e); found != api.OK {
			return i, found
		}
	}
	return len(l), api.OK
}

// until returns the entries up to a day.
func until(l []api.Entry, day int) []api.Entry {
	var part []api.Entry
	for _, e := range l {
		if e.Day <= day {
			part = append(part, e)
		}
	}
	return part
}

// historyOf returns the history of a holder and a grade up to a day, by looking at the end of each day.
func historyOf(l []api.Entry, holder, grade string, last int) []api.Step {
	var steps []api.Step
	before := 0
	for day := range last + 1 {
		mass := accountsOf(until(l, day)).held[[2]string{holder, grade}]
		if mass != before {
			steps = append(steps, step(day, mass))
		}
		before = mass
	}
	return steps
}

// massOn returns the mass that is held at the end of a day.
func massOn(h []api.Step, day int) int {
	mass := 0
	for _, s := range h {
		if s.Day <= day {
			mass = s.Mass
		}
	}
	return mass
}

// daysOn returns how many days in a row the mass was above 0.
func daysOn(h []api.Step, day int) int {
	days := 0
	for day-days >= 0 && massOn(h, day-days) > 0 {
		days++
	}
	return days
}

// randomEntry returns an entry of few holders and grades.
func randomEntry(r *rand.Rand, day int) api.Entry {
	pick := func(l ...string) string { return l[r.Intn(len(l))] }
	e := entry(day, pick("store", "ship", "issue", "issue", "cancel", "transfer", "pledge", "release"), "", "", pick("w1", "w2"), 1+r.Intn(9))
	if e.Kind != "store" && e.Kind != "ship" {
		e.Holder = pick("ann", "bob")
	}
	if e.Kind == "store" {
		e.Mass *= 3
	}
	if e.Kind == "transfer" || e.Kind == "pledge" || e.Kind == "release" {
		e.Other = pick(map[string]string{"ann": "bob", "bob": "ann"}[e.Holder], "zoe")
	}
	return e
}

// randomLedger returns a ledger without an error.
func randomLedger(r *rand.Rand, size int) []api.Entry {
	var l []api.Entry
	for day := r.Intn(2); len(l) < size; {
		if e := randomEntry(r, day); refusal(l, e) == api.OK {
			l = append(l, e)
			day += r.Intn(3) * r.Intn(2)
		}
	}
	return l
}

// randomSteps returns a history.
func randomSteps(r *rand.Rand, size int) []api.Step {
	var h []api.Step
	before := step(-1, 0)
	for range r.Intn(size + 1) {
		next := step(before.Day+1+r.Intn(4), r.Intn(3)*500)
		if next.Mass == before.Mass {
			next.Mass++
		}
		h = append(h, next)
		before = next
	}
	return h
}
