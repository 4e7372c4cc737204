// Package exact computes with rational numbers of any size.
// The layers bound the numbers of their arguments and results, but none on the way from these to those: there they use this package.
package exact

import (
	"cmp"
	"math"
	"strings"
)

// Number is a rational number; its zero value is 0. Numbers are never changed.
type Number struct {
	negative bool
	top      natural
	bottom   natural // empty for a whole number, so that the zero value is 0
}

// number returns a number whose numerator and denominator have no common divisor.
func number(negative bool, top, bottom natural) Number {
	if isOne(bottom) {
		bottom = nil
	}
	return Number{negative && len(top) > 0, top, bottom}
}

// denominator returns the denominator as a natural number, also that of a whole number.
func (a Number) denominator() natural {
	if len(a.bottom) == 0 {
		return natural{1}
	}
	return a.bottom
}

// Whole returns a machine integer as a number.
func Whole(n int) Number {
	size := uint64(n)
	if n < 0 {
		size = -size
	}
	return number(n < 0, trim(natural{size}), nil)
}

// Read returns the number of a text: perhaps a minus sign, decimal digits, and perhaps a slash and decimal digits that are not all 0.
// It returns false for any other text.
func Read(text string) (Number, bool) {
	digits, negative := strings.CutPrefix(text, "-")
	above, below, isFraction := strings.Cut(digits, "/")
	if !isFraction {
		below = "1"
	}
	if !AreDigits(above) || !AreDigits(below) {
		return Number{}, false
	}
	bottom := readDigits(below)
	if len(bottom) == 0 {
		return Number{}, false
	}
	return number(negative, readDigits(above), nil).Over(number(false, bottom, nil)), true
}

// AreDigits reports whether a text consists of decimal digits, at least one.
func AreDigits(text string) bool {
	for _, c := range text {
		if c < '0' || c > '9' {
			return false
		}
	}
	return text != ""
}

// Text returns the text of a number in lowest terms, such as 0, -7 or 3/2, if neither numerator nor denominator has more digits than most.
func (a Number) Text(most int) (string, bool) {
	text, fits := writeDigits(a.top, most)
	if !fits {
		return "", false
	}
	if a.negative {
		text = "-" + text
	}
	if len(a.bottom) == 0 {
		return text, true
	}
	below, fits := writeDigits(a.bottom, most)
	if !fits {
		return "", false
	}
	return text + "/" + below, true
}

// Fits reports whether neither numerator nor denominator has more digits than most, so that the number has a text.
func (a Number) Fits(most int) bool { return hasDigits(a.top, most) && hasDigits(a.bottom, most) }

// Int returns a number as a machine integer, and false if it is not one.
func (a Number) Int() (int, bool) {
	switch {
	case !a.IsWhole() || len(a.top) > 1:
		return 0, false
	case len(a.top) == 0:
		return 0, true
	case a.negative && a.top[0] <= 1<<63:
		return int(-a.top[0]), true
	case !a.negative && a.top[0] <= math.MaxInt64:
		return int(a.top[0]), true
	}
	return 0, false
}

// IsWhole reports whether a number is an integer.
func (a Number) IsWhole() bool {
	return len(a.bottom) == 0
}

// Denominator returns the denominator, which is above 0.
func (a Number) Denominator() Number {
	return number(false, a.denominator(), nil)
}

// Sign returns -1, 0 or 1.
func (a Number) Sign() int {
	switch {
	case a.negative:
		return -1
	case len(a.top) == 0:
		return 0
	}
	return 1
}

// Negated returns -a.
func (a Number) Negated() Number {
	return number(!a.negative, a.top, a.bottom)
}

// Plus returns a + b.
func (a Number) Plus(b Number) Number {
	// Only a divisor of both denominators can cancel out, so a long sum of short numbers needs no divisor of long ones.
	shared := commonDivisor(a.denominator(), b.denominator())
	left, _ := divide(a.denominator(), shared)
	right, _ := divide(b.denominator(), shared)
	negative, top := addSigned(a.negative, multiply(a.top, right), b.negative, multiply(b.top, left))
	cancelled := commonDivisor(top, shared)
	top, _ = divide(top, cancelled)
	bottom, _ := divide(b.denominator(), cancelled)
	return number(negative, top, multiply(left, bottom))
}

// addSigned returns the sign and the size of a sum.
func addSigned(isNegativeA bool, a natural, isNegativeB bool, b natural) (bool, natural) {
	switch {
	case isNegativeA == isNegativeB:
		return isNegativeA, add(a, b)
	case compareNaturals(a, b) < 0:
		return isNegativeB, subtract(b, a)
	}
	return isNegativeA, subtract(a, b)
}

// Minus returns a - b.
func (a Number) Minus(b Number) Number {
	return a.Plus(b.Negated())
}

// Times returns a * b.
func (a Number) Times(b Number) Number {
	first := commonDivisor(a.top, b.denominator())
	second := commonDivisor(b.top, a.denominator())
	topA, _ := divide(a.top, first)
	topB, _ := divide(b.top, second)
	bottomA, _ := divide(a.denominator(), second)
	bottomB, _ := divide(b.denominator(), first)
	return number(a.negative != b.negative, multiply(topA, topB), multiply(bottomA, bottomB))
}

// Over returns a / b, and 0 if b is 0.
func (a Number) Over(b Number) Number {
	if b.Sign() == 0 {
		return Number{}
	}
	return a.Times(number(b.negative, b.denominator(), b.top))
}

// Compare returns -1, 0 or 1 if a is less than, equal to, or greater than b.
func (a Number) Compare(b Number) int {
	if a.Sign() != b.Sign() || a.Sign() == 0 {
		return cmp.Compare(a.Sign(), b.Sign())
	}
	size := compareNaturals(multiply(a.top, b.denominator()), multiply(b.top, a.denominator()))
	return size * a.Sign()
}

// Lesser returns the lesser one of two numbers.
func Lesser(a, b Number) Number {
	if a.Compare(b) <= 0 {
		return a
	}
	return b
}

// Greater returns the greater one of two numbers.
func Greater(a, b Number) Number {
	if a.Compare(b) >= 0 {
		return a
	}
	return b
}

// Floor returns the greatest integer that is at most a.
func (a Number) Floor() Number {
	whole, rest := divide(a.top, a.denominator())
	if a.negative && len(rest) > 0 {
		whole = add(whole, natural{1})
	}
	return number(a.negative, whole, nil)
}

// Ceiling returns the least integer that is at least a.
func (a Number) Ceiling() Number {
	return a.Negated().Floor().Negated()
}
