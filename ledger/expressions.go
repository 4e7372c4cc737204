package ledger

import (
	"iter"

	"bushel/api"
	"bushel/measure"
)

// The types of expressions.
const (
	number    = "number"
	condition = "condition"
)

// The levels of the grammar, from the loosest to the tightest binding.
const (
	choiceLevel = iota
	orLevel
	andLevel
	notLevel
	comparisonLevel
	sumLevel
	productLevel
	signLevel
	primaryLevel
)

// op is an Op with a number of operands: its type, the first letters of the types of its operands, and its level of the grammar.
type op struct {
	name     string
	kind     string
	operands string
	level    int
}

// ops are all Ops.
var ops = []op{
	{"number", number, "", primaryLevel},
	{"mass", number, "", primaryLevel},
	{"days", number, "", primaryLevel},
	{"day", number, "", primaryLevel},
	{"-", number, "n", signLevel},
	{"+", number, "nn", sumLevel},
	{"-", number, "nn", sumLevel},
	{"*", number, "nn", productLevel},
	{"/", number, "nn", productLevel},
	{"min", number, "nn", primaryLevel},
	{"max", number, "nn", primaryLevel},
	{"floor", number, "n", primaryLevel},
	{"<", condition, "nn", comparisonLevel},
	{"<=", condition, "nn", comparisonLevel},
	{"=", condition, "nn", comparisonLevel},
	{"not", condition, "c", notLevel},
	{"and", condition, "cc", andLevel},
	{"or", condition, "cc", orLevel},
	{"if", number, "cnn", choiceLevel},
}

// findOp returns the Op of an expression, or ErrKind if there is none of its name, or ErrShape if none of them has as many operands.
func findOp(x api.Expr) (op, api.Errno) {
	e := api.ErrKind
	for _, o := range ops {
		if o.name != x.Op {
			continue
		}
		if len(o.operands) == len(x.Args) {
			return o, api.OK
		}
		e = api.ErrShape
	}
	return op{}, e
}

// opOf returns the Op of an expression without errors.
func opOf(x api.Expr) op {
	o, _ := findOp(x)
	return o
}

// walk visits an expression and all those in it, each one before its operands, with their depths.
func walk(x api.Expr) iter.Seq2[int, api.Expr] {
	return func(yield func(int, api.Expr) bool) {
		var goesOn func(depth int, x api.Expr) bool
		goesOn = func(depth int, x api.Expr) bool {
			if !yield(depth, x) {
				return false
			}
			for _, operand := range x.Args {
				if !goesOn(depth+1, operand) {
					return false
				}
			}
			return true
		}
		goesOn(1, x)
	}
}

// checkSize returns an error if a tree is too large or too deep, or OK.
func checkSize(x api.Expr) api.Errno {
	count, deepest := 0, 0
	for depth := range walk(x) {
		count++
		// No more are counted: a list of operands that is among its own operands has no end.
		if count > api.MaxNodes {
			return api.ErrMany
		}
		deepest = max(deepest, depth)
	}
	if deepest > api.MaxDepth {
		return api.ErrLimit
	}
	return api.OK
}

// checkAlone returns the first error of an expression without those of its operands, or OK.
func checkAlone(x api.Expr) api.Errno {
	o, e := findOp(x)
	switch {
	case e != api.OK:
		return e
	case o.name == "number":
		return checkNumber(x.Value)
	case x.Value != "":
		return api.ErrForm
	}
	return api.OK
}

// checkNumber returns the error of a number that is not negative, or OK.
func checkNumber(a api.Rat) api.Errno {
	if e := measure.Check(a); e != api.OK {
		return e
	}
	if a[0] == '-' {
		return api.ErrRange
	}
	return api.OK
}

// hasTypes reports whether the operands of an expression have the right types.
func hasTypes(x api.Expr) bool {
	wanted := opOf(x).operands
	for i, operand := range x.Args {
		if opOf(operand).kind[0] != wanted[i] {
			return false
		}
	}
	return true
}

// CheckExpr returns the type of an expression, or its first error.
func CheckExpr(x api.Expr) (string, api.Errno) {
	if e := checkSize(x); e != api.OK {
		return "", e
	}
	for _, part := range walk(x) {
		if e := checkAlone(part); e != api.OK {
			return "", e
		}
	}
	for _, part := range walk(x) {
		if !hasTypes(part) {
			return "", api.ErrType
		}
	}
	return opOf(x).kind, api.OK
}
