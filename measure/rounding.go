package measure

import (
	"bushel/api"
	"bushel/exact"
)

// rule is a rule of rounding: the kind's choice between two neighbouring multiples, and the step from one to the next.
type rule struct {
	// goesUp chooses for a number between two multiples: it is below (-1), in (0) or above (1) their middle,
	// and the lesser one is an odd multiple or not.
	goesUp func(side int, isOdd bool) bool
	step   exact.Number
}

// rulesByKind returns the rules of all kinds, still without a step.
func rulesByKind() map[string]rule {
	return map[string]rule{
		"down":      {goesUp: func(side int, isOdd bool) bool { return false }},
		"up":        {goesUp: func(side int, isOdd bool) bool { return true }},
		"half-up":   {goesUp: func(side int, isOdd bool) bool { return side >= 0 }},
		"half-even": {goesUp: func(side int, isOdd bool) bool { return side > 0 || side == 0 && isOdd }},
	}
}

// readRule returns a rule, or its first error.
func readRule(given api.Rounding) (rule, api.Errno) {
	r, isKind := rulesByKind()[given.Kind]
	if !isKind {
		return rule{}, api.ErrKind
	}
	step, e := read(given.Step)
	if e != api.OK {
		return rule{}, e
	}
	if step.Sign() <= 0 {
		return rule{}, api.ErrRange
	}
	r.step = step
	return r, api.OK
}

// rounded returns a number that is rounded by the rule.
func (r rule) rounded(a exact.Number) exact.Number {
	steps := a.Over(r.step)
	if steps.IsWhole() {
		return a
	}
	lesser := steps.Floor()
	side := steps.Minus(lesser).Compare(half(exact.Whole(1)))
	if r.goesUp(side, !half(lesser).IsWhole()) {
		lesser = lesser.Plus(exact.Whole(1))
	}
	return lesser.Times(r.step)
}

// half returns half a number.
func half(a exact.Number) exact.Number {
	return a.Over(exact.Whole(2))
}

// CheckRule returns the first error of a rule of rounding, or OK.
func CheckRule(rule api.Rounding) api.Errno {
	_, e := readRule(rule)
	return e
}

// Round returns a number that is rounded by a rule.
func Round(a api.Rat, rule api.Rounding) (api.Rat, api.Errno) {
	n, e := read(a)
	if e != api.OK {
		return "", e
	}
	r, e := readRule(rule)
	if e != api.OK {
		return "", e
	}
	return write(r.rounded(n))
}
