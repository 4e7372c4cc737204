package exact

import (
	"math/bits"
	"slices"
)

// commonDivisor returns the greatest common divisor; of 0 and b it is b.
// It takes several steps of Euclid's division at once, as far as the highest words alone determine them (Lehmer's method).
func commonDivisor(a, b natural) natural {
	if isOne(a) || isOne(b) {
		return natural{1}
	}
	if compareNaturals(a, b) < 0 {
		a, b = b, a
	}
	if len(b) > 1 {
		// The steps overwrite both.
		a, b = slices.Clone(a), slices.Clone(b)
	}
	for len(b) > 1 {
		s := foresee(a, b)
		if s.v0 == 0 {
			_, rest := divide(a, b)
			a, b = b, rest
			continue
		}
		a, b = s.take(a, b)
	}
	if len(b) == 0 {
		return a
	}
	return natural{wordDivisor(b[0], remainder(a, b[0]))}
}

// remainder returns the remainder of a divided by a word above 0.
func remainder(a natural, b uint64) uint64 {
	var rest uint64
	for i := len(a) - 1; i >= 0; i-- {
		_, rest = bits.Div64(rest, a[i], b)
	}
	return rest
}

// wordDivisor returns the greatest common divisor of two words, the first one above 0.
func wordDivisor(a, b uint64) uint64 {
	for b > 0 {
		a, b = b, a%b
	}
	return a
}

// steps are several steps of Euclid's division of a and b. Behind an even number of them
// a has become u0 a - v0 b, and b has become v1 b - u1 a; behind an odd number both are the other way round.
type steps struct {
	u0, u1, v0, v1 uint64
	even           bool
}

// foresee returns the steps that the highest 64 bits of a, and the bits of b beside them, determine; v0 is 0 if there are none.
// One more remainder, that of u and v, is always looked at: the condition (of Collins) says
// that the one before it is right whatever the lower bits are, and keeps all factors within half a word.
func foresee(a, b natural) steps {
	shift := bits.LeadingZeros64(a[len(a)-1])
	high, low := window(a, len(a), shift), window(b, len(a), shift)
	s := steps{u1: 1}
	u, v := uint64(0), uint64(1)
	for low >= v && high-low >= s.v1+v {
		q := high / low
		high, low = low, high%low
		s.u0, s.u1, u = s.u1, u, s.u1+q*u
		s.v0, s.v1, v = s.v1, v, s.v1+q*v
		s.even = !s.even
	}
	return s
}

// window returns the 64 bits of a that begin so many bits below the high end of a number with that many words.
func window(a natural, words, shift int) uint64 {
	return word(a, words-1)<<shift | word(a, words-2)>>(64-shift)
}

// word returns a word of a, and 0 above its high end.
func word(a natural, i int) uint64 {
	if i >= len(a) {
		return 0
	}
	return a[i]
}

// take makes of a and b what the steps make of them, in their own memory, and returns both.
func (s steps) take(a, b natural) (natural, natural) {
	for len(b) < len(a) {
		b = append(b, 0)
	}
	if s.even {
		subtractCrosswise(a, b, [2]uint64{s.u0, s.v1}, [2]uint64{s.v0, s.u1})
		return trim(a), trim(b)
	}
	subtractCrosswise(b, a, [2]uint64{s.v0, s.u1}, [2]uint64{s.u0, s.v1})
	return trim(b), trim(a)
}

// subtractCrosswise makes of a and b, which have as many words, own[0] a - cross[0] b and own[1] b - cross[1] a in place.
// Both are not negative and have no more words, so what is carried above the highest word cancels out.
func subtractCrosswise(a, b natural, own, cross [2]uint64) {
	var ownMore, crossMore, borrow [2]uint64
	for i := range a {
		x, y := a[i], b[i]
		var left, right uint64
		left, ownMore[0] = multiplyWord(x, own[0], ownMore[0])
		right, crossMore[0] = multiplyWord(y, cross[0], crossMore[0])
		a[i], borrow[0] = bits.Sub64(left, right, borrow[0])
		left, ownMore[1] = multiplyWord(y, own[1], ownMore[1])
		right, crossMore[1] = multiplyWord(x, cross[1], crossMore[1])
		b[i], borrow[1] = bits.Sub64(left, right, borrow[1])
	}
}
