package exact

import (
	"cmp"
	"math/bits"
	"slices"
	"strconv"
	"strings"
)

// natural is a natural number, written in the base 2^64: the lowest word first, and no 0 as the last one.
// Only divideInPlace changes the words of an argument, so numbers may share them.
type natural []uint64

// A part of a decimal text is as many digits as a word can hold.
const (
	partDigits = 19
	partBase   = 10_000_000_000_000_000_000
)

// trim leaves out the words of 0 at the high end.
func trim(a natural) natural {
	for len(a) > 0 && a[len(a)-1] == 0 {
		a = a[:len(a)-1]
	}
	return a
}

// isOne reports whether a is 1.
func isOne(a natural) bool {
	return len(a) == 1 && a[0] == 1
}

// bitLength returns the number of binary digits.
func bitLength(a natural) int {
	if len(a) == 0 {
		return 0
	}
	return (len(a)-1)*64 + bits.Len64(a[len(a)-1])
}

// compareNaturals returns -1, 0 or 1.
func compareNaturals(a, b natural) int {
	if len(a) != len(b) {
		return cmp.Compare(len(a), len(b))
	}
	for i := len(a) - 1; i >= 0; i-- {
		if a[i] != b[i] {
			return cmp.Compare(a[i], b[i])
		}
	}
	return 0
}

// add returns a + b.
func add(a, b natural) natural {
	if len(a) < len(b) {
		a, b = b, a
	}
	if len(b) == 0 {
		return a
	}
	sum := make(natural, len(a)+1)
	var carry uint64
	for i := range a {
		var w uint64
		if i < len(b) {
			w = b[i]
		}
		sum[i], carry = bits.Add64(a[i], w, carry)
	}
	sum[len(a)] = carry
	return trim(sum)
}

// subtract returns a - b, for b up to a.
func subtract(a, b natural) natural {
	if len(b) == 0 {
		return a
	}
	rest := make(natural, len(a))
	var borrow uint64
	for i := range a {
		var w uint64
		if i < len(b) {
			w = b[i]
		}
		rest[i], borrow = bits.Sub64(a[i], w, borrow)
	}
	return trim(rest)
}

// multiplyWord returns a * b + more: its lower word, and the higher one.
func multiplyWord(a, b, more uint64) (uint64, uint64) {
	high, low := bits.Mul64(a, b)
	low, carry := bits.Add64(low, more, 0)
	return low, high + carry
}

// multiply returns a * b.
func multiply(a, b natural) natural {
	if isOne(a) {
		return b
	}
	if isOne(b) {
		return a
	}
	product := make(natural, len(a)+len(b))
	for i, factor := range a {
		var more uint64
		for k, w := range b {
			low, high := multiplyWord(w, factor, more)
			sum, carry := bits.Add64(product[i+k], low, 0)
			product[i+k], more = sum, high+carry
		}
		product[i+len(b)] = more
	}
	return trim(product)
}

// shiftLeft returns a * 2^shift with one more word than a has, for a shift below 64.
func shiftLeft(a natural, shift int) natural {
	shifted := make(natural, len(a)+1)
	var low uint64
	for i, w := range a {
		shifted[i] = w<<shift | low
		low = w >> (64 - shift)
	}
	shifted[len(a)] = low
	return shifted
}

// shiftRight returns a / 2^shift without the fraction, for a shift below 64.
func shiftRight(a natural, shift int) natural {
	shifted := make(natural, len(a))
	var high uint64
	for i := len(a) - 1; i >= 0; i-- {
		shifted[i] = a[i]>>shift | high
		high = a[i] << (64 - shift)
	}
	return trim(shifted)
}

// divideInPlace makes of a its quotient by b, which is above 0, and returns it and the remainder.
func divideInPlace(a natural, b uint64) (natural, uint64) {
	var rest uint64
	for i := len(a) - 1; i >= 0; i-- {
		a[i], rest = bits.Div64(rest, a[i], b)
	}
	return trim(a), rest
}

// divide returns quotient and remainder, for b above 0.
func divide(a, b natural) (natural, natural) {
	if compareNaturals(a, b) < 0 {
		return nil, a
	}
	if isOne(b) {
		return a, nil
	}
	if len(b) == 1 {
		quotient, rest := divideInPlace(slices.Clone(a), b[0])
		return quotient, trim(natural{rest})
	}
	// The highest bit of the divisor is set, so that its highest word alone makes a good guess.
	shift := bits.LeadingZeros64(b[len(b)-1])
	divisor := trim(shiftLeft(b, shift))
	rest := shiftLeft(a, shift)
	quotient := make(natural, len(a)-len(b)+1)
	for k := len(quotient) - 1; k >= 0; k-- {
		window := rest[k : k+len(divisor)+1]
		word := guess(window, divisor)
		missing := takeTimes(window, divisor, word)
		for missing > 0 {
			word--
			missing -= giveBack(window, divisor)
		}
		quotient[k] = word
	}
	return trim(quotient), shiftRight(trim(rest), shift)
}

// guess returns the word of the quotient of a window and a divisor with one word less, or slightly more.
func guess(window, divisor natural) uint64 {
	n := len(divisor)
	highest := divisor[n-1]
	if window[n] >= highest {
		return 1<<64 - 1
	}
	word, rest := bits.Div64(window[n], window[n-1], highest)
	high, low := bits.Mul64(word, divisor[n-2])
	for high > rest || high == rest && low > window[n-2] {
		word--
		rest += highest
		if rest < highest {
			break
		}
		high, low = bits.Mul64(word, divisor[n-2])
	}
	return word
}

// takeTimes subtracts factor * divisor from the window in place, and returns what is missing above its highest word.
func takeTimes(window, divisor natural, factor uint64) uint64 {
	var more uint64
	for i, w := range divisor {
		low, high := multiplyWord(w, factor, more)
		rest, borrow := bits.Sub64(window[i], low, 0)
		window[i], more = rest, high+borrow
	}
	var missing uint64
	window[len(divisor)], missing = bits.Sub64(window[len(divisor)], more, 0)
	return missing
}

// giveBack adds the divisor to the window in place, and returns the carry above its highest word.
func giveBack(window, divisor natural) uint64 {
	var carry uint64
	for i, w := range divisor {
		window[i], carry = bits.Add64(window[i], w, carry)
	}
	window[len(divisor)], carry = bits.Add64(window[len(divisor)], 0, carry)
	return carry
}

// readDigits returns the number of a text of decimal digits.
func readDigits(digits string) natural {
	a := make(natural, 0, len(digits)/partDigits+1)
	for len(digits) > 0 {
		n := (len(digits)-1)%partDigits + 1
		more, _ := strconv.ParseUint(digits[:n], 10, 64)
		for i, w := range a {
			a[i], more = multiplyWord(w, partBase, more)
		}
		if more > 0 {
			a = append(a, more)
		}
		digits = digits[n:]
	}
	return a
}

// hasDigits reports whether a number has at most so many decimal digits.
func hasDigits(a natural, most int) bool {
	// 2^33 is less than 10^10: a number that is short enough at a glance need not be written.
	if bitLength(a)*10 <= (most-1)*33 {
		return true
	}
	_, fits := writeDigits(a, most)
	return fits
}

// writeDigits returns the decimal digits, if there are at most so many.
func writeDigits(a natural, most int) (string, bool) {
	// Ten bits are more than three digits: a number far too long is refused without the labour of writing it.
	if bitLength(a) > most/3*10+10 {
		return "", false
	}
	var reversed []byte
	for rest := slices.Clone(a); len(rest) > 0; {
		var part uint64
		rest, part = divideInPlace(rest, partBase)
		for range partDigits {
			reversed = append(reversed, byte('0'+part%10))
			part /= 10
		}
	}
	slices.Reverse(reversed)
	digits := strings.TrimLeft(string(reversed), "0")
	if digits == "" {
		digits = "0"
	}
	if len(digits) > most {
		return "", false
	}
	return digits, true
}
