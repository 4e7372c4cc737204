package exact_test

import (
	"math"
	"math/big"
	"math/rand"
	"strings"
	"testing"

	"bushel/exact"
)

const unbounded = 1 << 30

// number reads a text that has to be a number.
func number(t *testing.T, text string) exact.Number {
	t.Helper()
	n, ok := exact.Read(text)
	if !ok {
		t.Fatalf("Read of %.80q: not a number", text)
	}
	return n
}

// ofBig returns a number of math/big.
func ofBig(t *testing.T, r *big.Rat) exact.Number {
	t.Helper()
	return number(t, r.RatString())
}

// same reports a number that differs from the one of math/big.
func same(t *testing.T, what string, got exact.Number, want *big.Rat) {
	t.Helper()
	if text, ok := got.Text(unbounded); !ok || text != want.RatString() {
		t.Fatalf("%s: got %.200s, want %.200s", what, text, want.RatString())
	}
}

// randomWhole returns an integer of at most so many words, many of whose words are all zeros or all ones:
// those are the words for which the guess of a division is wrong.
func randomWhole(r *rand.Rand, words int) *big.Int {
	n := new(big.Int)
	for range r.Intn(words + 1) {
		word := r.Uint64()
		switch r.Intn(4) {
		case 0:
			word = 0
		case 1:
			word = math.MaxUint64
		case 2:
			word = 1 << 63
		}
		n.Lsh(n, 64).Or(n, new(big.Int).SetUint64(word))
	}
	n.Rsh(n, uint(r.Intn(64)))
	if r.Intn(2) == 0 {
		n.Neg(n)
	}
	return n
}

// randomPair returns two numbers that may share factors.
func randomPair(r *rand.Rand, words int) (*big.Rat, *big.Rat) {
	factor, other := randomWhole(r, words), randomWhole(r, words)
	one := func() *big.Rat {
		top, bottom := randomWhole(r, words), randomWhole(r, words)
		if r.Intn(2) == 0 {
			top.Mul(top, factor)
		}
		if r.Intn(2) == 0 {
			bottom.Mul(bottom, other)
		}
		if bottom.Sign() == 0 {
			bottom.SetInt64(1)
		}
		return new(big.Rat).SetFrac(top, bottom)
	}
	return one(), one()
}

// TestFits checks that a number fits exactly if it has a text.
func TestFits(t *testing.T) {
	r := rand.New(rand.NewSource(7))
	expectFits := func(n exact.Number, most int) {
		t.Helper()
		_, want := n.Text(most)
		if got := n.Fits(most); got != want {
			t.Fatalf("Fits(%d): got %v, want %v", most, got, want)
		}
	}
	for _, digits := range []int{1, 2, 10, 19, 20, 21, 100, 599, 600} {
		least, greatest := "1"+strings.Repeat("0", digits), strings.Repeat("9", digits)
		for _, text := range []string{"0", least, greatest, "-" + least, "-" + greatest, "1/" + least, "1/" + greatest} {
			for most := digits - 1; most <= digits+2; most++ {
				if most > 0 {
					expectFits(number(t, text), most)
				}
			}
		}
	}
	for range 5000 {
		a, _ := randomPair(r, 9)
		expectFits(ofBig(t, a), 1+r.Intn(200))
	}
}

func TestOperationsAgainstBig(t *testing.T) {
	r := rand.New(rand.NewSource(1))
	for i := range 20000 {
		words := 1 + i%9
		x, y := randomPair(r, words)
		a, b := ofBig(t, x), ofBig(t, y)
		same(t, "Plus", a.Plus(b), new(big.Rat).Add(x, y))
		same(t, "Minus", a.Minus(b), new(big.Rat).Sub(x, y))
		same(t, "Times", a.Times(b), new(big.Rat).Mul(x, y))
		same(t, "Negated", a.Negated(), new(big.Rat).Neg(x))
		if y.Sign() != 0 {
			same(t, "Over", a.Over(b), new(big.Rat).Quo(x, y))
		}
		floor := new(big.Int).Div(x.Num(), x.Denom())
		same(t, "Floor", a.Floor(), new(big.Rat).SetInt(floor))
		ceiling := floor
		if !x.IsInt() {
			ceiling = new(big.Int).Add(floor, big.NewInt(1))
		}
		same(t, "Ceiling", a.Ceiling(), new(big.Rat).SetInt(ceiling))
		same(t, "Denominator", a.Denominator(), new(big.Rat).SetInt(x.Denom()))
		if got := a.Compare(b); got != x.Cmp(y) {
			t.Fatalf("Compare of %v and %v: got %d", x, y, got)
		}
		if a.Compare(a) != 0 || a.Sign() != x.Sign() || a.IsWhole() != x.IsInt() {
			t.Fatalf("Compare with itself, Sign or IsWhole of %v", x)
		}
	}
}

func TestReadReducesLongFractions(t *testing.T) {
	r := rand.New(rand.NewSource(2))
	for range 3000 {
		top, bottom, factor := randomWhole(r, 40), randomWhole(r, 40), randomWhole(r, 20)
		bottom.Abs(bottom)
		factor.Abs(factor)
		if bottom.Sign() == 0 || factor.Sign() == 0 {
			continue
		}
		top.Mul(top, factor)
		bottom.Mul(bottom, factor)
		same(t, "Read", number(t, top.String()+"/"+bottom.String()), new(big.Rat).SetFrac(top, bottom))
	}
}

func TestReadOfNeighbouringFibonacciNumbers(t *testing.T) {
	// For these, Euclid's division takes the most steps of all.
	a, b := big.NewInt(1), big.NewInt(1)
	for range 3000 {
		a, b = b, new(big.Int).Add(a, b)
		if n := number(t, a.String()+"/"+b.String()); !strings.HasSuffix(textOf(n), "/"+b.String()) {
			t.Fatalf("%v/%v was changed", a, b)
		}
	}
}

// textOf returns the text of a number of any size.
func textOf(n exact.Number) string {
	text, _ := n.Text(unbounded)
	return text
}

func TestRead(t *testing.T) {
	for text, want := range map[string]string{
		"0": "0", "-0": "0", "007": "7", "-12/8": "-3/2", "0/5": "0", "6/3": "2", "1/01": "1",
		"18446744073709551616": "18446744073709551616", "10000000000000000000": "10000000000000000000",
		"-9999999999999999999/3": "-3333333333333333333",
	} {
		if got := textOf(number(t, text)); got != want {
			t.Errorf("Read of %s: got %s, want %s", text, got, want)
		}
	}
	for _, text := range []string{"", "-", "+1", "--1", "1/", "/1", "1/0", "1/00", "1/-2", "1.5", "1/2/3", " 1", "1e3", "٣"} {
		if n, ok := exact.Read(text); ok || n.Sign() != 0 {
			t.Errorf("Read of %q: got a number", text)
		}
	}
}

func TestTextCountsDigits(t *testing.T) {
	for _, digits := range []int{1, 2, 3, 18, 19, 20, 38, 39, 599, 600} {
		most := strings.Repeat("9", digits)
		least := "1" + strings.Repeat("0", digits-1)
		for _, row := range []struct {
			text string
			fits bool
		}{
			{most, true}, {"-" + most, true}, {"1/" + strings.Repeat("7", digits), true}, {least, true},
			{most + "9", false}, {"-" + least + "0", false}, {"1/" + least + "0", false}, {least + "0/7", false},
			{strings.Repeat(most, 40), false}, {"1/" + strings.Repeat(most, 40), false},
		} {
			text, fits := number(t, row.text).Text(digits)
			if fits != row.fits || fits && text != row.text || !fits && text != "" {
				t.Errorf("Text of %s for %d digits: got %q, %v", row.text, digits, text, fits)
			}
		}
	}
	if text, fits := (exact.Number{}).Text(1); text != "0" || !fits {
		t.Errorf("Text of 0: got %q, %v", text, fits)
	}
}

func TestMachineIntegers(t *testing.T) {
	for _, n := range []int{0, 1, -1, 7, math.MaxInt64, math.MinInt64, math.MinInt64 + 1} {
		same(t, "Whole", exact.Whole(n), new(big.Rat).SetInt64(int64(n)))
		if got, ok := exact.Whole(n).Int(); got != n || !ok {
			t.Errorf("Int of %d: got %d, %v", n, got, ok)
		}
	}
	for _, text := range []string{"1/2", "-5/2", "9223372036854775808", "-9223372036854775809", "18446744073709551616", "-18446744073709551617"} {
		if got, ok := number(t, text).Int(); got != 0 || ok {
			t.Errorf("Int of %s: got %d, %v", text, got, ok)
		}
	}
}

func TestZero(t *testing.T) {
	zero, three := exact.Number{}, exact.Whole(3)
	if three.Over(zero).Sign() != 0 || three.Times(zero).Sign() != 0 || zero.Over(three).Sign() != 0 {
		t.Error("a quotient or product with 0 is not 0")
	}
	if textOf(zero.Plus(three)) != "3" || textOf(zero.Minus(three)) != "-3" || textOf(three.Minus(three)) != "0" || textOf(zero.Negated()) != "0" {
		t.Error("a sum or difference with 0 is wrong")
	}
	if !zero.IsWhole() || zero.Compare(three) != -1 || three.Negated().Compare(zero) != -1 || three.Negated().Compare(three) != -1 {
		t.Error("0 is out of its order")
	}
}

func TestLesserAndGreater(t *testing.T) {
	half, third := number(t, "1/2"), number(t, "1/3")
	for _, row := range [][2]exact.Number{{half, third}, {third, half}} {
		same(t, "Lesser", exact.Lesser(row[0], row[1]), big.NewRat(1, 3))
		same(t, "Greater", exact.Greater(row[0], row[1]), big.NewRat(1, 2))
	}
	same(t, "Lesser of equal ones", exact.Lesser(half, half), big.NewRat(1, 2))
	same(t, "Greater of equal ones", exact.Greater(half, half), big.NewRat(1, 2))
}
