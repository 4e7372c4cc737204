package bin_test

import (
	"fmt"
	"math"
	"math/big"
	"math/rand"
	"reflect"
	"slices"
	"strings"
	"testing"

	"bushel/api"
	"bushel/bin"
)

const most = api.MaxMass

// expect reports a result that is not the expected one.
func expect(t *testing.T, what string, got, want any) {
	t.Helper()
	if !reflect.DeepEqual(got, want) {
		t.Errorf("%.300s: got %.300s, want %.300s", what, fmt.Sprint(got), fmt.Sprint(want))
	}
}

// expectList reports a list that is not the expected one; nil and empty lists are equal.
func expectList[T any](t *testing.T, what string, got, want []T) {
	t.Helper()
	if len(got) > 0 || len(want) > 0 {
		expect(t, what, got, want)
	}
}

// nines returns the greatest number with so many digits.
func nines(digits int) string { return strings.Repeat("9", digits) }

// alone returns the shares of one lot.
func alone(lot string) []api.Share { return []api.Share{{Lot: lot, Part: "1"}} }

// parts returns the shares of two lots, of which the first one has this part.
func parts(a string, part api.Rat, b string) []api.Share {
	rest := new(big.Rat).Sub(big.NewRat(1, 1), toBig(part))
	return []api.Share{{Lot: a, Part: part}, {Lot: b, Part: api.Rat(rest.RatString())}}
}

// many returns the shares of so many lots, all of the same part.
func many(prefix string, lots int) []api.Share {
	var l []api.Share
	for i := range lots {
		l = append(l, api.Share{Lot: fmt.Sprintf("%s%03d", prefix, i), Part: api.Rat(big.NewRat(1, int64(lots)).RatString())})
	}
	return l
}

// wheat returns a layer of wheat.
func wheat(mass int, shares []api.Share) api.Layer {
	return api.Layer{Grain: "wheat", Mass: mass, Shares: shares}
}

// kindA and kindB return layers like those of the document's examples.
func kindA(mass int) api.Layer { return wheat(mass, alone("a")) }
func kindB(mass int) api.Layer { return wheat(mass, parts("a", "1/2", "b")) }

// parcel is the one of the document's examples.
func parcel() []api.Layer { return []api.Layer{kindA(10), kindB(6)} }

// example is the bin of the document's examples.
func example() api.Bin {
	return api.Bin{Flow: "funnel", Core: 4, Room: 30, Side: 12, Cells: [][]api.Layer{parcel(), {kindA(5)}}}
}

// ofCells returns a bin without limits that these cells could exceed.
func ofCells(core int, cells ...[]api.Layer) api.Bin {
	flow := "funnel"
	if core == 0 {
		flow = "mass"
	}
	return api.Bin{Flow: flow, Core: core, Room: most, Side: most, Cells: cells}
}

// alternating returns so many layers with this mass, of which no two neighbours are alike.
func alternating(layers, mass int) []api.Layer {
	var l []api.Layer
	for i := range layers {
		l = append(l, wheat(mass, alone([]string{"a", "b", "c"}[i%3])))
	}
	return l
}

// toBig returns a number of math/big, which is the judge of these tests.
func toBig(a api.Rat) *big.Rat {
	r, ok := new(big.Rat).SetString(string(a))
	if !ok {
		panic("not a number: " + string(a))
	}
	return r
}

// massesIn returns the mass of each lot in some parcels together.
func massesIn(parcels ...[]api.Layer) map[string]*big.Rat {
	masses := map[string]*big.Rat{}
	for _, x := range slices.Concat(parcels...) {
		for _, s := range x.Shares {
			if masses[s.Lot] == nil {
				masses[s.Lot] = new(big.Rat)
			}
			masses[s.Lot].Add(masses[s.Lot], new(big.Rat).Mul(toBig(s.Part), big.NewRat(int64(x.Mass), 1)))
		}
	}
	return masses
}

// amountsIn returns the amounts of some parcels together.
func amountsIn(parcels ...[]api.Layer) []bin.Amount {
	var l []bin.Amount
	for lot, mass := range massesIn(parcels...) {
		l = append(l, bin.Amount{Lot: lot, Mass: api.Rat(mass.RatString())})
	}
	slices.SortFunc(l, func(a, b bin.Amount) int { return strings.Compare(a.Lot, b.Lot) })
	return l
}

// kilograms returns what each kilogram of a parcel is.
func kilograms(l []api.Layer) []string {
	var kinds []string
	for _, x := range l {
		kinds = append(kinds, slices.Repeat([]string{fmt.Sprint(x.Grain, x.Shares)}, x.Mass)...)
	}
	return kinds
}

// expectParcel reports a parcel that is not the normal form of these kilograms.
func expectParcel(t *testing.T, what string, got []api.Layer, kinds []string) {
	t.Helper()
	expectList(t, what, kilograms(got), kinds)
	expectNormal(t, what, got)
}

// expectNormal reports a parcel that is not in normal form.
func expectNormal(t *testing.T, what string, l []api.Layer) {
	t.Helper()
	for i, x := range l {
		if i > 0 && x.Grain == l[i-1].Grain && slices.Equal(x.Shares, l[i-1].Shares) || x.Mass < 1 {
			t.Errorf("%.300s: not in normal form: %.300s", what, fmt.Sprint(l))
		}
	}
}

// layersOf returns of how many layers the normal form of kilograms consists.
func layersOf(kinds []string) int { return len(slices.Compact(slices.Clone(kinds))) }

// takeOut returns the parcel that flows out of a cell in a draw, kilogram for kilogram, and the rest.
func takeOut(b api.Bin, cell, mass int) (outflow, rest []string) {
	rest = kilograms(b.Cells[cell])
	var lows []string
	for range mass {
		n := len(rest)
		if b.Flow == "mass" || n%b.Core == 0 {
			lows, rest = append(lows, rest[0]), rest[1:]
		} else {
			outflow, rest = append(outflow, rest[n-1]), rest[:n-1]
		}
	}
	return append(outflow, lows...), rest
}

// levels returns the levels of the cells of a bin.
func levels(b api.Bin) []int {
	var l []int
	for _, cell := range b.Cells {
		l = append(l, weight(cell))
	}
	return l
}

// weight returns the mass of a parcel.
func weight(l []api.Layer) int {
	sum := 0
	for _, x := range l {
		sum += x.Mass
	}
	return sum
}

// areSafe reports whether levels are within the limit of their differences.
func areSafe(b api.Bin, levels []int) bool {
	for i := 1; i < len(levels); i++ {
		if levels[i]-levels[i-1] > b.Side || levels[i-1]-levels[i] > b.Side {
			return false
		}
	}
	return true
}

// copyOf returns a copy of a parcel that shares no memory with it.
func copyOf(l []api.Layer) []api.Layer {
	result := slices.Clone(l)
	for i := range result {
		result[i].Shares = slices.Clone(l[i].Shares)
	}
	return result
}

// copyOfBin returns a copy of a bin that shares no memory with it.
func copyOfBin(b api.Bin) api.Bin {
	cells := slices.Clone(b.Cells)
	for i := range cells {
		cells[i] = copyOf(cells[i])
	}
	b.Cells = cells
	return b
}

// randomParcel returns a parcel of at most so many layers of small masses, of few kinds, so that neighbours are often alike.
func randomParcel(r *rand.Rand, layers int, grains ...string) []api.Layer {
	var l []api.Layer
	for range r.Intn(layers + 1) {
		shares := [][]api.Share{alone("a"), alone("b"), parts("a", "1/2", "b"), parts("b", "2/3", "c"), many("d", 3)}[r.Intn(5)]
		l = append(l, api.Layer{Grain: grains[r.Intn(len(grains))], Mass: 1 + r.Intn(4), Shares: slices.Clone(shares)})
	}
	return l
}

// randomBin returns a bin of cells with at most so many layers of small masses.
func randomBin(r *rand.Rand, layers int) api.Bin {
	b := api.Bin{Flow: "funnel", Core: 2 + r.Intn(5)}
	if r.Intn(2) == 0 {
		b.Flow, b.Core = "mass", 0
	}
	for range 1 + r.Intn(4) {
		b.Cells = append(b.Cells, randomParcel(r, layers, []string{"wheat", "rye"}[r.Intn(2)]))
	}
	l := levels(b)
	b.Room = max(1, slices.Max(l)+r.Intn(8))
	for !areSafe(b, l) {
		b.Side++
	}
	b.Side += r.Intn(4)
	return b
}

// badParcel is a parcel with its error.
type badParcel struct {
	what string
	l    []api.Layer
	e    api.Errno
}

// badParcels are parcels with an error, in the order of the errors: each one has errors that come later, too.
func badParcels() []badParcel {
	worst := api.Layer{Grain: "?", Mass: -1}
	great := wheat(most, alone("a"))
	half := api.Share{Lot: "a", Part: "1/2"}
	return []badParcel{
		{"too many layers", slices.Repeat([]api.Layer{worst}, api.MaxLayers+1), api.ErrMany},
		{"too many layers that are alike", slices.Repeat([]api.Layer{kindA(1)}, api.MaxLayers+1), api.ErrMany},
		{"no grain", []api.Layer{great, great, {Mass: 1, Shares: alone("a")}, worst}, api.ErrName},
		{"a grain with a blank", []api.Layer{{Grain: "a b"}, wheat(0, nil)}, api.ErrName},
		{"a grain with 25 bytes", []api.Layer{kindA(1), {Grain: strings.Repeat("x", 25)}}, api.ErrName},
		{"no mass", []api.Layer{great, kindA(1), wheat(0, nil), worst}, api.ErrRange},
		{"a negative mass", []api.Layer{wheat(-1, nil)}, api.ErrRange},
		{"a mass that is too great", []api.Layer{kindA(1), wheat(most+1, nil)}, api.ErrRange},
		{"the greatest integer", []api.Layer{kindA(1), wheat(math.MaxInt, alone("a"))}, api.ErrRange},
		{"the least integer", []api.Layer{kindA(1), wheat(math.MinInt, alone("a"))}, api.ErrRange},
		{"no shares", []api.Layer{great, great, wheat(1, nil), worst}, api.ErrShape},
		{"too many shares", []api.Layer{kindA(1), wheat(1, many("x", 65)), worst}, api.ErrMany},
		{"a lot that is not a name", []api.Layer{wheat(1, alone("a b"))}, api.ErrName},
		{"lots in a wrong order", []api.Layer{wheat(1, parts("b", "1/2", "a")), worst}, api.ErrOrder},
		{"a lot twice", []api.Layer{wheat(1, parts("a", "1/2", "a")), worst}, api.ErrOrder},
		{"a part that is no number", []api.Layer{wheat(1, []api.Share{{Lot: "a", Part: "2/2"}})}, api.ErrForm},
		{"a part with too many digits", []api.Layer{wheat(1, []api.Share{{Lot: "a", Part: api.Rat("1/" + nines(601))}})}, api.ErrLarge},
		{"a part of 0", []api.Layer{wheat(1, []api.Share{{Lot: "a", Part: "0"}, {Lot: "b", Part: "1"}})}, api.ErrShare},
		{"a negative part", []api.Layer{wheat(1, []api.Share{{Lot: "a", Part: "-1"}, {Lot: "b", Part: "2"}})}, api.ErrShare},
		{"parts that do not add up", []api.Layer{kindB(1), wheat(1, []api.Share{half}), worst}, api.ErrShare},
		{"too great a mass", []api.Layer{great, kindA(1), {Grain: "rye", Mass: 1, Shares: alone("a")}}, api.ErrLarge},
		{"by far too great a mass", slices.Repeat([]api.Layer{great}, api.MaxLayers), api.ErrLarge},
	}
}

// badBin is a bin with its error.
type badBin struct {
	what string
	b    api.Bin
	e    api.Errno
}

// badBins are bins with an error, in the order of the errors: each one has errors that come later, too.
func badBins() []badBin {
	rye := api.Layer{Grain: "rye", Mass: 1, Shares: alone("a")}
	full, mixed := []api.Layer{kindA(31)}, []api.Layer{kindA(31), rye}
	worst := [][]api.Layer{{{Grain: "?"}}, mixed, full}
	tooMany := slices.Repeat(worst, 3)
	bins := []badBin{
		{"no bin", api.Bin{}, api.ErrKind},
		{"no flow", api.Bin{Core: -1, Room: -1, Side: -1}, api.ErrKind},
		{"another flow", api.Bin{Flow: "Mass", Room: 1, Cells: tooMany}, api.ErrKind},
		{"a flow with a blank", api.Bin{Flow: "funnel ", Core: 2, Room: 1, Cells: worst}, api.ErrKind},
	}
	for _, row := range []api.Bin{
		{Flow: "mass", Core: 1, Room: 1}, {Flow: "mass", Core: -1, Room: 1}, {Flow: "mass", Core: 2, Room: 1}, {Flow: "mass", Core: math.MinInt, Room: 1},
		{Flow: "funnel", Core: 1, Room: 1}, {Flow: "funnel", Core: 0, Room: 1}, {Flow: "funnel", Core: -2, Room: 1}, {Flow: "funnel", Core: most + 1, Room: 1},
		{Flow: "funnel", Core: math.MaxInt, Room: 1},
		{Flow: "mass", Room: 0}, {Flow: "mass", Room: -1}, {Flow: "mass", Room: most + 1}, {Flow: "funnel", Core: 2, Room: math.MinInt},
		{Flow: "mass", Room: 1, Side: -1}, {Flow: "mass", Room: 1, Side: most + 1}, {Flow: "mass", Room: 1, Side: math.MaxInt}, {Flow: "mass", Room: 1, Side: math.MinInt},
	} {
		bins = append(bins, badBin{fmt.Sprint("numbers without cells: ", row), row, api.ErrRange})
		row.Cells = tooMany
		bins = append(bins, badBin{fmt.Sprint("numbers with bad cells: ", row), row, api.ErrRange})
	}
	good := api.Bin{Flow: "funnel", Core: 2, Room: 30, Side: 5}
	add := func(what string, e api.Errno, cells ...[]api.Layer) {
		b := good
		b.Cells = cells
		bins = append(bins, badBin{what, b, e})
	}
	add("no cells", api.ErrShape)
	add("too many cells", api.ErrMany, tooMany...)
	add("too many empty cells", api.ErrMany, make([][]api.Layer, api.MaxCells+1)...)
	for _, bad := range badParcels() {
		add("a cell: "+bad.what, bad.e, nil, []api.Layer{kindA(30)}, bad.l, mixed, full)
	}
	add("two grains", api.ErrGrain, nil, []api.Layer{kindA(30)}, mixed, full, worst[0])
	add("too high a level", api.ErrFull, nil, []api.Layer{kindA(30)}, full, mixed, worst[0])
	add("too high a level of many layers", api.ErrFull, alternating(31, 1))
	add("too high a level, and one that is not safe", api.ErrFull, []api.Layer{kindA(6)}, nil, full)
	add("levels that are not safe", api.ErrSafe, []api.Layer{kindA(6)}, nil)
	add("levels that are not safe the other way round", api.ErrSafe, nil, []api.Layer{kindA(3)}, []api.Layer{kindA(9)})
	return bins
}
