package exact

import (
	"math/bits"
	"slices"
)

// commonDivisor returns the greatest common divisor; of 0 and b it is b.
// It takes several steps of Euclid's division at once, as far as the highest words alone determine them (Lehmer's method).
func commonDivisor(a, b natural) natural {
	if isOne(a) || isOne(b) {
		return natural{1}
	}
	if compareNaturals(a, b) < 0 {
		a, b = b, a
	}
	for len(b) > 1 {
		s := foresee(a, b)
		if s.v0 == 0 {
			_, rest := divide(a, b)
			a, b = b, rest
			continue
		}
		a, b = s.take(a, b)
	}
	if len(b) == 0 {
		return a
	}
	_, rest := divideInPlace(slices.Clone(a), b[0])
	return natural{wordDivisor(b[0], rest)}
}

// wordDivisor returns the greatest common divisor of two words, the first one above 0.
func wordDivisor(a, b uint64) uint64 {
	for b > 0 {
		a, b = b, a%b
	}
	return a
}

// steps are several steps of Euclid's division of a and b. Behind an even number of them
// a has become u0 a - v0 b, and b has become v1 b - u1 a; behind an odd number both are the other way round.
type steps struct {
	u0, u1, v0, v1 uint64
	even           bool
}

// foresee returns the steps that the highest 64 bits of a, and the bits of b beside them, determine; v0 is 0 if there are none.
// One more remainder, that of u and v, is always looked at: the condition (of Collins) says
// that the one before it is right whatever the lower bits are, and keeps all factors within half a word.
func foresee(a, b natural) steps {
	shift := bits.LeadingZeros64(a[len(a)-1])
	high, low := window(a, len(a), shift), window(b, len(a), shift)
	s := steps{u1: 1}
	u, v := uint64(0), uint64(1)
	for low >= v && high-low >= s.v1+v {
		q := high / low
		high, low = low, high%low
		s.u0, s.u1, u = s.u1, u, s.u1+q*u
		s.v0, s.v1, v = s.v1, v, s.v1+q*v
		s.even = !s.even
	}
	return s
}

// window returns the 64 bits of a that begin so many bits below the high end of a number with that many words.
func window(a natural, words, shift int) uint64 {
	return word(a, words-1)<<shift | word(a, words-2)>>(64-shift)
}

// word returns a word of a, and 0 above its high end.
func word(a natural, i int) uint64 {
	if i >= len(a) {
		return 0
	}
	return a[i]
}

// take returns what the steps make of a and b.
func (s steps) take(a, b natural) (natural, natural) {
	if s.even {
		return difference(a, s.u0, b, s.v0), difference(b, s.v1, a, s.u1)
	}
	return difference(b, s.v0, a, s.u0), difference(a, s.u1, b, s.v1)
}

// difference returns a x - b y, which is not negative.
func difference(a natural, x uint64, b natural, y uint64) natural {
	result := make(natural, max(len(a), len(b))+1)
	var moreA, moreB, borrow uint64
	for i := range result {
		var left, right uint64
		left, moreA = multiplyWord(word(a, i), x, moreA)
		right, moreB = multiplyWord(word(b, i), y, moreB)
		result[i], borrow = bits.Sub64(left, right, borrow)
	}
	return trim(result)
}
