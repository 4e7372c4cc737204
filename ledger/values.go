package ledger

import (
	"bushel/api"
	"bushel/exact"
)

// tree is an expression without errors whose numbers have been read.
type tree struct {
	op       string
	number   exact.Number
	operands []tree
}

// readTree returns the tree of an expression without errors.
func readTree(x api.Expr) tree {
	t := tree{op: x.Op}
	// The value is empty, and no number is read, unless the expression is a number.
	t.number, _ = exact.Read(string(x.Value))
	for _, operand := range x.Args {
		t.operands = append(t.operands, readTree(operand))
	}
	return t
}

// situation is what an expression is evaluated for.
type situation struct {
	mass int
	days int
	day  int
}

// value is the value of an expression: a number, or whether a condition holds.
type value struct {
	number exact.Number
	holds  bool
}

// evaluation evaluates trees in a situation, and notes which names are evaluated.
type evaluation struct {
	situation
	isUsed map[string]bool
}

// evaluate returns the value of a tree, or ErrLarge if that of a tree in it is too long.
func (v *evaluation) evaluate(t tree) (value, api.Errno) {
	if t.op == "if" {
		return v.choose(t)
	}
	var l [2]value
	for i, operand := range t.operands {
		var e api.Errno
		l[i], e = v.evaluate(operand)
		if e != api.OK {
			return value{}, e
		}
	}
	result := v.combine(t, l[0], l[1])
	if !result.number.Fits(api.MaxDigits) {
		return value{}, api.ErrLarge
	}
	return result, api.OK
}

// choose returns the value of a choice, for which the other number is not evaluated.
func (v *evaluation) choose(t tree) (value, api.Errno) {
	c, e := v.evaluate(t.operands[0])
	switch {
	case e != api.OK:
		return value{}, e
	case c.holds:
		return v.evaluate(t.operands[1])
	}
	return v.evaluate(t.operands[2])
}

// combine returns the value of a tree that is no choice, from those of its operands.
func (v *evaluation) combine(t tree, a, b value) value {
	switch t.op {
	case "mass", "days", "day":
		v.isUsed[t.op] = true
		return value{number: exact.Whole(v.named(t.op))}
	case "not":
		return value{holds: !a.holds}
	case "and":
		return value{holds: a.holds && b.holds}
	case "or":
		return value{holds: a.holds || b.holds}
	case "<":
		return value{holds: a.number.Compare(b.number) < 0}
	case "<=":
		return value{holds: a.number.Compare(b.number) <= 0}
	case "=":
		return value{holds: a.number.Compare(b.number) == 0}
	}
	return value{number: compute(t, a.number, b.number)}
}

// named returns the value of a name.
func (s situation) named(name string) int {
	switch name {
	case "mass":
		return s.mass
	case "days":
		return s.days
	}
	return s.day
}

// compute returns the number of a tree from those of its operands.
func compute(t tree, a, b exact.Number) exact.Number {
	switch t.op {
	case "+":
		return a.Plus(b)
	case "-":
		if len(t.operands) == 1 {
			return a.Negated()
		}
		return a.Minus(b)
	case "*":
		return a.Times(b)
	case "/":
		// This is 0 if b is 0, as tariffs want it.
		return a.Over(b)
	case "min":
		return exact.Lesser(a, b)
	case "max":
		return exact.Greater(a, b)
	case "floor":
		return a.Floor()
	}
	return t.number
}

// evaluateExpr returns the value of an expression and the names that are evaluated, or the first error.
func evaluateExpr(x api.Expr, s situation) (exact.Number, map[string]bool, api.Errno) {
	if e := checkValue(x); e != api.OK {
		return exact.Number{}, nil, e
	}
	if !isMass(s.mass) || !isFrom(0, api.MaxDay+1, s.days) || !isDay(s.day) {
		return exact.Number{}, nil, api.ErrRange
	}
	v := &evaluation{s, map[string]bool{}}
	result, e := v.evaluate(readTree(x))
	return result.number, v.isUsed, e
}
