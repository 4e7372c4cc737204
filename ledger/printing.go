package ledger

import (
	"strings"

	"bushel/api"
)

// loosest returns the loosest level at which an operand needs no parentheses.
func (o op) loosest(operand int) int {
	switch {
	case o.level == primaryLevel:
		return choiceLevel
	case o.level == comparisonLevel || operand > 0 && o.level != choiceLevel:
		// Operators associate to the left, comparisons not at all.
		return o.level + 1
	}
	return o.level
}

// textOf returns the printed text of an expression without errors.
func textOf(x api.Expr) string {
	o := opOf(x)
	var operands []string
	for i, operand := range x.Args {
		text := textOf(operand)
		if opOf(operand).level < o.loosest(i) {
			text = "(" + text + ")"
		}
		operands = append(operands, text)
	}
	return o.text(x.Value, operands)
}

// text returns the text of an Op with those of its operands.
func (o op) text(value api.Rat, operands []string) string {
	switch {
	case o.name == "number":
		return string(value)
	case len(operands) == 0:
		return o.name
	case o.level == primaryLevel:
		return o.name + "(" + strings.Join(operands, ", ") + ")"
	case o.level == choiceLevel:
		return "if " + operands[0] + " then " + operands[1] + " else " + operands[2]
	case o.level == notLevel:
		return "not " + operands[0]
	case o.level == signLevel:
		return "-" + operands[0]
	}
	return operands[0] + " " + o.name + " " + operands[1]
}

// Print returns the text of an expression.
func Print(x api.Expr) (string, api.Errno) {
	if _, e := CheckExpr(x); e != api.OK {
		return "", e
	}
	text := textOf(x)
	if len(text) > api.MaxText {
		return "", api.ErrLong
	}
	return text, api.OK
}
