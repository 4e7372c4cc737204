// Package measure is layer 1: numbers, rules of rounding, spans of measured values, whole kilograms in proportion, and shares of lots.
package measure

import (
	"strings"

	"bushel/api"
	"bushel/exact"
)

// IsName reports whether a text is a name.
func IsName(s string) bool {
	for _, c := range s {
		if !isNameLetter(c) {
			return false
		}
	}
	return len(s) >= 1 && len(s) <= api.MaxName
}

// isNameLetter reports whether names may contain a character.
func isNameLetter(c rune) bool {
	switch {
	case c >= 'a' && c <= 'z', c >= 'A' && c <= 'Z', c >= '0' && c <= '9':
		return true
	}
	return c == '-' || c == '_' || c == '.'
}

// Check returns the first error of a number, or OK.
func Check(a api.Rat) api.Errno {
	_, e := read(a)
	return e
}

// read returns a number, or its first error.
func read(a api.Rat) (exact.Number, api.Errno) {
	digits, isNegative := strings.CutPrefix(string(a), "-")
	top, bottom, isFraction := strings.Cut(digits, "/")
	if !isPlain(top) || isNegative && top == "0" {
		return exact.Number{}, api.ErrForm
	}
	if isFraction && (!isPlain(bottom) || bottom == "0" || bottom == "1") {
		return exact.Number{}, api.ErrForm
	}
	if len(top) > api.MaxDigits || len(bottom) > api.MaxDigits {
		return exact.Number{}, api.ErrLarge
	}
	n, _ := exact.Read(string(a))
	// Each number has one text: another one of this form has a common divisor.
	if text, _ := n.Text(api.MaxDigits); text != string(a) {
		return exact.Number{}, api.ErrForm
	}
	return n, api.OK
}

// isPlain reports whether a text consists of digits without zeros in front.
func isPlain(digits string) bool {
	return exact.AreDigits(digits) && (digits == "0" || digits[0] != '0')
}

// write returns a number as a result.
func write(n exact.Number) (api.Rat, api.Errno) {
	text, fits := n.Text(api.MaxDigits)
	if !fits {
		return "", api.ErrLarge
	}
	return api.Rat(text), api.OK
}

// readEach reads the elements of a list, or returns the error of the first one that has one.
func readEach[T, U any](l []T, readOne func(T) (U, api.Errno)) ([]U, api.Errno) {
	result := make([]U, 0, len(l))
	for _, x := range l {
		y, e := readOne(x)
		if e != api.OK {
			return nil, e
		}
		result = append(result, y)
	}
	return result, api.OK
}

// Of returns num / den.
func Of(num, den int) (api.Rat, api.Errno) {
	if den == 0 {
		return "", api.ErrZero
	}
	return write(exact.Whole(num).Over(exact.Whole(den)))
}

// Parse returns the number that a text such as 3, -6/4 or 0.25 describes.
func Parse(s string) (api.Rat, api.Errno) {
	if len(s) > api.MaxText {
		return "", api.ErrLong
	}
	digits := strings.TrimPrefix(s, "-")
	sign := s[:len(s)-len(digits)]
	top, bottom, isFraction := strings.Cut(digits, "/")
	if !isFraction {
		top, bottom = withoutPoint(digits)
	}
	if !exact.AreDigits(top) || !exact.AreDigits(bottom) {
		return "", api.ErrSyntax
	}
	n, isNumber := exact.Read(sign + top + "/" + bottom)
	if !isNumber {
		return "", api.ErrZero
	}
	return write(n)
}

// withoutPoint returns the numerator and the denominator of a decimal fraction; of a text that is none the numerator is none either.
func withoutPoint(s string) (string, string) {
	whole, behind, hasPoint := strings.Cut(s, ".")
	if hasPoint && (whole == "" || behind == "") {
		return "", ""
	}
	return whole + behind, "1" + strings.Repeat("0", len(behind))
}

// Int returns an integer as a machine integer.
func Int(a api.Rat) (int, api.Errno) {
	n, e := read(a)
	if e != api.OK {
		return 0, e
	}
	i, fits := n.Int()
	if !fits {
		return 0, api.ErrRange
	}
	return i, api.OK
}

// operate returns what an operation makes of two numbers.
func operate(a, b api.Rat, operation func(a, b exact.Number) exact.Number) (api.Rat, api.Errno) {
	l, e := readEach([]api.Rat{a, b}, read)
	if e != api.OK {
		return "", e
	}
	return write(operation(l[0], l[1]))
}

// Add returns the sum.
func Add(a, b api.Rat) (api.Rat, api.Errno) { return operate(a, b, exact.Number.Plus) }

// Sub returns the difference.
func Sub(a, b api.Rat) (api.Rat, api.Errno) { return operate(a, b, exact.Number.Minus) }

// Mul returns the product.
func Mul(a, b api.Rat) (api.Rat, api.Errno) { return operate(a, b, exact.Number.Times) }

// Div returns the quotient.
func Div(a, b api.Rat) (api.Rat, api.Errno) {
	l, e := readEach([]api.Rat{a, b}, read)
	if e != api.OK {
		return "", e
	}
	if l[1].Sign() == 0 {
		return "", api.ErrZero
	}
	return write(l[0].Over(l[1]))
}

// Compare returns -1, 0 or 1.
func Compare(a, b api.Rat) (int, api.Errno) {
	l, e := readEach([]api.Rat{a, b}, read)
	if e != api.OK {
		return 0, e
	}
	return l[0].Compare(l[1]), api.OK
}

// Floor returns the greatest integer that is at most a.
func Floor(a api.Rat) (api.Rat, api.Errno) {
	n, e := read(a)
	if e != api.OK {
		return "", e
	}
	return write(n.Floor())
}
