package bin_test

import (
	"fmt"
	"math"
	"math/rand"
	"slices"
	"strings"
	"testing"

	"bushel/api"
	"bushel/bin"
)

// P4.1: forms of parcels.

// goodParcels are parcels without an error.
func goodParcels() map[string][]api.Layer {
	return map[string][]api.Layer{
		"nil": nil, "empty": {}, "the example": parcel(), "the greatest mass": {kindA(most)}, "the greatest mass of two": {kindA(most - 1), kindB(1)},
		"the most layers": alternating(api.MaxLayers, 1), "the most layers that are alike": slices.Repeat([]api.Layer{kindA(2)}, api.MaxLayers),
		"the most lots": {wheat(1, many("x", 64)), wheat(2, many("y", 64))}, "different grains": {kindA(1), {Grain: "rye", Mass: 2, Shares: alone("a")}, kindA(1)},
		"long names": {{Grain: strings.Repeat("g", 24), Mass: 1, Shares: alone(strings.Repeat("x", 24))}},
		"long parts": {wheat(7, parts("a", api.Rat("1/"+nines(600)), "b"))},
	}
}

func TestCheckParcel(t *testing.T) {
	for what, l := range goodParcels() {
		expect(t, what, bin.CheckParcel(l), api.OK)
	}
	for _, bad := range badParcels() {
		expect(t, bad.what, bin.CheckParcel(bad.l), bad.e)
	}
}

// TestBadParcels checks that each function returns the error of a parcel before those of arguments behind it, and nothing else.
func TestBadParcels(t *testing.T) {
	for _, bad := range badParcels() {
		l, e := bin.Normal(bad.l)
		expect(t, "Normal: "+bad.what, e, bad.e)
		expectList(t, "Normal: "+bad.what, l, nil)
		mass, e := bin.Mass(bad.l)
		expect(t, "Mass: "+bad.what, []any{mass, e}, []any{0, bad.e})
		amounts, e := bin.Lots(bad.l)
		expect(t, "Lots: "+bad.what, e, bad.e)
		expectList(t, "Lots: "+bad.what, amounts, nil)
		first, rest, e := bin.Split(bad.l, -1)
		expect(t, "Split: "+bad.what, e, bad.e)
		expectList(t, "Split: "+bad.what, append(first, rest...), nil)
		for _, other := range append(badParcels(), badParcel{"none", nil, api.OK}, badParcel{"great", []api.Layer{kindA(most)}, api.OK}) {
			l, e = bin.Join(bad.l, other.l)
			expect(t, "Join: "+bad.what, e, bad.e)
			expectList(t, "Join: "+bad.what, l, nil)
		}
		l, e = bin.Join([]api.Layer{kindA(most)}, bad.l)
		expect(t, "Join behind another one: "+bad.what, e, bad.e)
		expectList(t, "Join behind another one: "+bad.what, l, nil)
		layer, e := bin.Pool(bad.l, "?")
		expect(t, "Pool: "+bad.what, []any{layer, e}, []any{api.Layer{}, bad.e})
		layer, amounts, e = bin.Shrink(bad.l, 0)
		expect(t, "Shrink: "+bad.what, []any{layer, e}, []any{api.Layer{}, bad.e})
		expectList(t, "Shrink: "+bad.what, amounts, nil)
		b, e := bin.Fill(ofCells(0, nil), 0, bad.l)
		expect(t, "Fill: "+bad.what, []any{b, e}, []any{api.Bin{}, bad.e})
	}
}

func TestNormal(t *testing.T) {
	rye := func(mass int) api.Layer { return api.Layer{Grain: "rye", Mass: mass, Shares: alone("a")} }
	other := wheat(1, parts("a", "1/3", "b"))
	for _, row := range []struct{ l, want []api.Layer }{
		{nil, nil}, {[]api.Layer{}, nil}, {[]api.Layer{kindA(3)}, []api.Layer{kindA(3)}}, {parcel(), parcel()},
		{[]api.Layer{kindA(3), kindA(4)}, []api.Layer{kindA(7)}},
		{[]api.Layer{kindA(3), kindB(1), kindA(4)}, []api.Layer{kindA(3), kindB(1), kindA(4)}},
		{[]api.Layer{kindA(1), kindA(2), kindB(1), kindB(5), kindB(9), kindA(4)}, []api.Layer{kindA(3), kindB(15), kindA(4)}},
		{[]api.Layer{kindA(1), rye(2), rye(3), kindA(1)}, []api.Layer{kindA(1), rye(5), kindA(1)}},
		{[]api.Layer{kindB(1), other, other, kindB(1)}, []api.Layer{kindB(1), wheat(2, parts("a", "1/3", "b")), kindB(1)}},
		{[]api.Layer{wheat(1, parts("a", "1/2", "c")), kindB(1), wheat(1, many("a", 2))}, []api.Layer{wheat(1, parts("a", "1/2", "c")), kindB(1), wheat(1, many("a", 2))}},
		{slices.Repeat([]api.Layer{kindA(2)}, api.MaxLayers), []api.Layer{kindA(128)}},
		{alternating(api.MaxLayers, 1), alternating(api.MaxLayers, 1)},
	} {
		got, e := bin.Normal(row.l)
		expect(t, fmt.Sprint("Normal of ", row.l), e, api.OK)
		expectList(t, fmt.Sprint("Normal of ", row.l), got, row.want)
	}
}

func TestMass(t *testing.T) {
	for _, row := range []struct {
		l    []api.Layer
		want int
	}{{nil, 0}, {parcel(), 16}, {[]api.Layer{kindA(most)}, most}, {[]api.Layer{kindA(3), kindA(3), kindB(1)}, 7}} {
		got, e := bin.Mass(row.l)
		expect(t, fmt.Sprint("Mass of ", row.l), []any{got, e}, []any{row.want, api.OK})
	}
}

// P4.2: splitting and joining.

func TestSplit(t *testing.T) {
	for _, row := range []struct {
		l, first, rest []api.Layer
		mass           int
		e              api.Errno
	}{
		{l: parcel(), mass: 12, first: []api.Layer{kindA(10), kindB(2)}, rest: []api.Layer{kindB(4)}},
		{l: parcel(), mass: 10, first: []api.Layer{kindA(10)}, rest: []api.Layer{kindB(6)}},
		{l: parcel(), mass: 3, first: []api.Layer{kindA(3)}, rest: []api.Layer{kindA(7), kindB(6)}},
		{l: parcel(), mass: 0, rest: parcel()}, {l: parcel(), mass: 16, first: parcel()}, {l: nil, mass: 0},
		{l: []api.Layer{kindA(2), kindA(2), kindA(2)}, mass: 3, first: []api.Layer{kindA(3)}, rest: []api.Layer{kindA(3)}},
		{l: []api.Layer{kindA(most)}, mass: most - 1, first: []api.Layer{kindA(most - 1)}, rest: []api.Layer{kindA(1)}},
		{l: parcel(), mass: 17, e: api.ErrEmpty}, {l: nil, mass: 1, e: api.ErrEmpty}, {l: parcel(), mass: math.MaxInt, e: api.ErrEmpty},
		{l: parcel(), mass: -1, e: api.ErrRange}, {l: nil, mass: -1, e: api.ErrRange}, {l: parcel(), mass: math.MinInt, e: api.ErrRange},
	} {
		first, rest, e := bin.Split(row.l, row.mass)
		what := fmt.Sprint("Split of ", row.l, " at ", row.mass)
		expect(t, what, e, row.e)
		expectList(t, what, first, row.first)
		expectList(t, what, rest, row.rest)
	}
}

func TestJoin(t *testing.T) {
	different := alternating(api.MaxLayers, 1)
	for _, row := range []struct {
		what       string
		a, b, want []api.Layer
		e          api.Errno
	}{
		{what: "nothing"}, {what: "nothing behind it", a: parcel(), want: parcel()}, {what: "nothing before it", b: parcel(), want: parcel()},
		{what: "the examples", a: parcel(), b: parcel(), want: []api.Layer{kindA(10), kindB(6), kindA(10), kindB(6)}},
		{what: "alike in the middle", a: parcel(), b: []api.Layer{kindB(1), kindA(2)}, want: []api.Layer{kindA(10), kindB(7), kindA(2)}},
		{what: "all alike", a: []api.Layer{kindA(1), kindA(2)}, b: []api.Layer{kindA(3), kindA(4)}, want: []api.Layer{kindA(10)}},
		{what: "the greatest mass", a: []api.Layer{kindA(1)}, b: []api.Layer{kindA(most - 1)}, want: []api.Layer{kindA(most)}},
		{what: "too great a mass", a: []api.Layer{kindA(1)}, b: []api.Layer{kindA(most)}, e: api.ErrLarge},
		{what: "too great a mass and too many layers", a: different, b: []api.Layer{kindB(most)}, e: api.ErrLarge},
		{what: "too many layers", a: different, b: []api.Layer{kindB(1)}, e: api.ErrMany},
		{what: "too many layers before it", a: []api.Layer{kindB(1)}, b: different, e: api.ErrMany},
		{what: "as many layers as before", a: different, b: different[63:], want: append(slices.Clone(different[:63]), wheat(2, different[63].Shares))},
		{what: "many layers that are alike", a: slices.Repeat([]api.Layer{kindA(1)}, 64), b: slices.Repeat([]api.Layer{kindB(1)}, 64), want: []api.Layer{kindA(64), kindB(64)}},
	} {
		got, e := bin.Join(row.a, row.b)
		expect(t, row.what, e, row.e)
		expectList(t, row.what, got, row.want)
	}
}

func TestSplitAndJoinKilogramForKilogram(t *testing.T) {
	r := rand.New(rand.NewSource(41))
	for range 2000 {
		l := randomParcel(r, 8, "wheat", "rye")
		before, kinds := copyOf(l), kilograms(l)
		mass := r.Intn(len(kinds) + 1)
		first, rest, e := bin.Split(l, mass)
		what := fmt.Sprint(l, " at ", mass)
		expect(t, what, e, api.OK)
		expectParcel(t, what, first, kinds[:mass])
		expectParcel(t, what, rest, kinds[mass:])
		joined, e := bin.Join(first, rest)
		expect(t, what, e, api.OK)
		expectParcel(t, what, joined, kinds)
		form, e := bin.Normal(l)
		expect(t, what, e, api.OK)
		expectList(t, what, joined, form)
		expectList(t, "the argument", l, before)
	}
}

// P4.2: pooling and shrinking.

func TestPool(t *testing.T) {
	rye := api.Layer{Grain: "rye", Mass: 16, Shares: alone("a")}
	for _, row := range []struct {
		what  string
		l     []api.Layer
		grain string
		want  api.Layer
		e     api.Errno
	}{
		{what: "the example", l: parcel(), grain: "wheat", want: wheat(16, parts("a", "13/16", "b"))},
		{what: "another grain", l: parcel(), grain: "feed", want: api.Layer{Grain: "feed", Mass: 16, Shares: parts("a", "13/16", "b")}},
		{what: "different grains", l: append(parcel(), rye), grain: "mix", want: api.Layer{Grain: "mix", Mass: 32, Shares: parts("a", "29/32", "b")}},
		{what: "one layer", l: []api.Layer{kindB(most)}, grain: "wheat", want: kindB(most)},
		{what: "no name", l: nil, grain: "", e: api.ErrName}, {what: "a name with a blank", l: parcel(), grain: "a b", e: api.ErrName},
		{what: "nothing", l: nil, grain: "wheat", e: api.ErrEmpty}, {what: "an empty list", l: []api.Layer{}, grain: "wheat", e: api.ErrEmpty},
		{what: "the most lots", l: []api.Layer{wheat(1, many("x", 32)), wheat(1, many("y", 32))}, grain: "wheat",
			want: wheat(2, slices.Concat(sharesWith(many("x", 32), "1/64"), sharesWith(many("y", 32), "1/64")))},
		{what: "too many lots", l: []api.Layer{wheat(1, many("x", 64)), kindA(1)}, grain: "wheat", e: api.ErrMany},
		{what: "numbers that are too long", l: []api.Layer{longParts(), kindA(2)}, grain: "wheat", e: api.ErrLarge},
	} {
		before := copyOf(row.l)
		got, e := bin.Pool(row.l, row.grain)
		expect(t, row.what, []any{got, e}, []any{row.want, row.e})
		expectList(t, "the argument: "+row.what, row.l, before)
	}
}

// sharesWith returns shares of the same lots, each with that part.
func sharesWith(l []api.Share, part api.Rat) []api.Share {
	for i := range l {
		l[i].Part = part
	}
	return l
}

// longParts returns a layer of one kilogram whose shares have the greatest number of digits.
func longParts() api.Layer { return wheat(1, parts("a", api.Rat("1/"+nines(600)), "b")) }

func TestShrink(t *testing.T) {
	rye := api.Layer{Grain: "rye", Mass: 1, Shares: many("x", 64)}
	loses := func(l ...string) []bin.Amount {
		var amounts []bin.Amount
		for i := 0; i < len(l); i += 2 {
			amounts = append(amounts, bin.Amount{Lot: l[i], Mass: api.Rat(l[i+1])})
		}
		return amounts
	}
	long := []api.Layer{wheat(5, parts("a", api.Rat(nines(599)+"8/"+nines(600)), "b"))}
	for _, row := range []struct {
		what string
		l    []api.Layer
		left int
		want api.Layer
		lost []bin.Amount
		e    api.Errno
	}{
		{what: "the example", l: parcel(), left: 15, want: wheat(15, parts("a", "13/16", "b")), lost: loses("a", "13/16", "b", "3/16")},
		{what: "nothing is lost", l: parcel(), left: 16, want: wheat(16, parts("a", "13/16", "b"))},
		{what: "as much as possible is lost", l: parcel(), left: 1, want: wheat(1, parts("a", "13/16", "b")), lost: loses("a", "195/16", "b", "45/16")},
		{what: "one lot", l: []api.Layer{kindA(most)}, left: 1, want: kindA(1), lost: loses("a", "999999998")},
		{what: "another grain", l: []api.Layer{{Grain: "rye", Mass: 20, Shares: alone("red")}}, left: 19, want: api.Layer{Grain: "rye", Mass: 19, Shares: alone("red")}, lost: loses("red", "1")},
		{what: "nothing is to be left", l: nil, left: 0, e: api.ErrRange}, {what: "less than nothing", l: parcel(), left: math.MinInt, e: api.ErrRange},
		{what: "nothing", l: nil, left: 1, e: api.ErrEmpty}, {what: "too little", l: parcel(), left: 17, e: api.ErrEmpty},
		{what: "by far too little, of two grains", l: append(parcel(), rye), left: math.MaxInt, e: api.ErrEmpty},
		{what: "two grains and too many lots", l: append(parcel(), rye), left: 17, e: api.ErrGrain},
		{what: "too many lots", l: []api.Layer{wheat(1, many("x", 64)), kindA(1)}, left: 1, e: api.ErrMany},
		{what: "shares that are too long", l: []api.Layer{longParts(), kindA(2)}, left: 2, e: api.ErrLarge},
		{what: "losses that are too long", l: long, left: 1, e: api.ErrLarge},
		{what: "no losses beside long shares", l: long, left: 5, want: long[0]},
		{what: "losses that are just not too long", l: long, left: 4, want: wheat(4, long[0].Shares), lost: loses("a", nines(599)+"8/"+nines(600), "b", "1/"+nines(600))},
	} {
		before := copyOf(row.l)
		got, lost, e := bin.Shrink(row.l, row.left)
		expect(t, row.what, []any{got, e}, []any{row.want, row.e})
		expectList(t, row.what, lost, row.lost)
		expectList(t, "the argument: "+row.what, row.l, before)
	}
}

func TestShrinkLosesWhatIsNotLeft(t *testing.T) {
	r := rand.New(rand.NewSource(42))
	for range 500 {
		l := append(randomParcel(r, 6, "wheat"), kindB(2))
		left := 1 + r.Intn(weight(l))
		got, lost, e := bin.Shrink(l, left)
		what := fmt.Sprint("Shrink of ", l, " to ", left)
		expect(t, what, e, api.OK)
		expect(t, what, []any{got.Grain, got.Mass}, []any{"wheat", left})
		pooled, e := bin.Pool(l, "wheat")
		expect(t, what, e, api.OK)
		expect(t, what, pooled.Shares, got.Shares)
		expectList(t, what, amountsIn([]api.Layer{pooled}), amountsIn(l))
		water := api.Layer{Grain: "wheat", Mass: weight(l) - left, Shares: pooled.Shares}
		if water.Mass == 0 {
			expectList(t, what, lost, nil)
		} else {
			expectList(t, what, lost, amountsIn([]api.Layer{water}))
		}
	}
}
