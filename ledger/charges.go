package ledger

import (
	"slices"

	"bushel/api"
	"bushel/exact"
	"bushel/measure"
	"bushel/numbers"
)

// Eval returns the value of an expression.
func Eval(x api.Expr, mass, days, day int) (api.Rat, api.Errno) {
	result, _, e := evaluateExpr(x, situation{mass, days, day})
	if e != api.OK {
		return "", e
	}
	return numbers.Write(result)
}

// Changes returns the names that are evaluated when an expression is.
func Changes(x api.Expr, mass, days, day int) ([]string, api.Errno) {
	_, isUsed, e := evaluateExpr(x, situation{mass, days, day})
	if e != api.OK {
		return nil, e
	}
	names := slices.DeleteFunc([]string{"mass", "days", "day"}, func(name string) bool { return !isUsed[name] })
	return names, api.OK
}

// CheckSteps returns the first error of a history, or OK.
func CheckSteps(h []api.Step) api.Errno {
	if len(h) > api.MaxEntries {
		return api.ErrMany
	}
	// The first step is behind no mass on a day that is none.
	before := api.Step{Day: -1}
	for _, step := range h {
		switch {
		case !isDay(step.Day):
			return api.ErrDay
		case step.Day <= before.Day:
			return api.ErrOrder
		case !isMass(step.Mass):
			return api.ErrRange
		case step.Mass == before.Mass:
			return api.ErrTwice
		}
		before = step
	}
	return api.OK
}

// checkPeriod returns the first error of the days from from to to, or OK.
func checkPeriod(from, to int) api.Errno {
	if !isDay(from) || !isDay(to) || from > to {
		return api.ErrDay
	}
	if to-from+1 > api.MaxPeriod {
		return api.ErrLimit
	}
	return api.OK
}

// situationAt returns the situation of a history at the end of a day.
func situationAt(h []api.Step, day int) situation {
	s := situation{day: day}
	first := day
	for _, step := range h {
		if step.Day > day {
			break
		}
		if s.mass == 0 {
			first = step.Day
		}
		s.mass = step.Mass
	}
	if s.mass > 0 {
		s.days = day - first + 1
	}
	return s
}

// charge returns the sum of the values of a tree over some situations.
func charge(t tree, situations []situation) (api.Rat, api.Errno) {
	var sum exact.Number
	for _, s := range situations {
		v := &evaluation{s, map[string]bool{}}
		result, e := v.evaluate(t)
		if e != api.OK {
			return "", e
		}
		sum = sum.Plus(result.number)
	}
	return numbers.Write(sum)
}

// period is the days of a charge and the rules by which they are charged.
type period struct {
	names []string
	trees []tree
	from  int
	to    int
}

// newPeriod returns the period of a tariff and days without errors.
func newPeriod(t []api.Rule, from, to int) period {
	p := period{from: from, to: to}
	for _, r := range t {
		p.names, p.trees = append(p.names, r.Name), append(p.trees, readTree(r.Value))
	}
	return p
}

// lines returns the lines for a history, with a text in front of their names.
func (p period) lines(h []api.Step, front string) ([]api.Line, api.Errno) {
	var situations []situation
	for i := range p.to - p.from + 1 {
		situations = append(situations, situationAt(h, p.from+i))
	}
	var lines []api.Line
	for i, t := range p.trees {
		amount, e := charge(t, situations)
		if e != api.OK {
			return nil, e
		}
		lines = append(lines, api.Line{Name: front + p.names[i], Amount: amount})
	}
	return lines, api.OK
}

// Charge returns the charges for a history over some days.
func Charge(t []api.Rule, h []api.Step, from, to int) ([]api.Line, api.Errno) {
	if e := CheckTariff(t); e != api.OK {
		return nil, e
	}
	if e := CheckSteps(h); e != api.OK {
		return nil, e
	}
	if e := checkPeriod(from, to); e != api.OK {
		return nil, e
	}
	return newPeriod(t, from, to).lines(h, "")
}

// gradesOf returns the grades of a ledger in ascending order.
func gradesOf(l []api.Entry) []string {
	var grades []string
	for _, e := range l {
		grades = append(grades, e.Grade)
	}
	slices.Sort(grades)
	return slices.Compact(grades)
}

// Bill returns the charges of a holder over some days, grade by grade.
func Bill(t []api.Rule, l []api.Entry, holder string, from, to int) ([]api.Line, api.Errno) {
	if e := CheckTariff(t); e != api.OK {
		return nil, e
	}
	if _, e := Check(l); e != api.OK {
		return nil, e
	}
	if !measure.IsName(holder) {
		return nil, api.ErrName
	}
	if e := checkPeriod(from, to); e != api.OK {
		return nil, e
	}
	p := newPeriod(t, from, to)
	var bill []api.Line
	for _, grade := range gradesOf(l) {
		h := history(l, holder, grade)
		if len(h) == 0 {
			continue
		}
		lines, e := p.lines(h, grade+"/")
		if e != api.OK {
			return nil, e
		}
		bill = append(bill, lines...)
	}
	return bill, api.OK
}

// Total returns the sum of the amounts of lines.
func Total(lines []api.Line) (api.Rat, api.Errno) {
	if len(lines) > api.MaxEntries {
		return "", api.ErrMany
	}
	amounts, e := numbers.Each(lines, func(l api.Line) (exact.Number, api.Errno) { return numbers.Read(l.Amount) })
	if e != api.OK {
		return "", e
	}
	var sum exact.Number
	for _, amount := range amounts {
		sum = sum.Plus(amount)
	}
	return numbers.Write(sum)
}
