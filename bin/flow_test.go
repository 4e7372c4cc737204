package bin_test

import (
	"fmt"
	"math"
	"math/rand"
	"slices"
	"testing"

	"bushel/api"
	"bushel/bin"
)

// P4.3: filling, drawing and turning.

// withCells returns the bin of the examples with other cells.
func withCells(cells ...[]api.Layer) api.Bin {
	b := example()
	b.Cells = cells
	return b
}

func TestFill(t *testing.T) {
	rye := api.Layer{Grain: "rye", Mass: 1, Shares: alone("a")}
	wide := ofCells(2, alternating(64, 1), nil)
	wide.Room = 70
	for _, row := range []struct {
		what string
		b    api.Bin
		cell int
		l    []api.Layer
		want api.Bin
		e    api.Errno
	}{
		{what: "another kind", b: example(), cell: 1, l: []api.Layer{kindB(2)}, want: withCells(parcel(), []api.Layer{kindA(5), kindB(2)})},
		{what: "the same kind", b: example(), cell: 1, l: []api.Layer{kindA(2)}, want: withCells(parcel(), []api.Layer{kindA(7)})},
		{what: "the first layer is the lowest one", b: example(), cell: 1, l: []api.Layer{kindB(2), kindA(2), kindA(1)}, want: withCells(parcel(), []api.Layer{kindA(5), kindB(2), kindA(3)})},
		{what: "as much as possible", b: example(), cell: 1, l: []api.Layer{kindA(23)}, want: withCells(parcel(), []api.Layer{kindA(28)})},
		{what: "beside a higher one", b: example(), cell: 0, l: []api.Layer{kindA(1)}, want: withCells([]api.Layer{kindA(10), kindB(6), kindA(1)}, []api.Layer{kindA(5)})},
		{what: "nothing", b: withCells([]api.Layer{kindA(1), kindA(1)}, []api.Layer{kindB(1), kindB(2)}), cell: 0, want: withCells([]api.Layer{kindA(2)}, []api.Layer{kindB(3)})},
		{what: "an empty cell", b: withCells(nil, nil), cell: 1, l: []api.Layer{rye}, want: withCells(nil, []api.Layer{rye})},
		{what: "two grains", b: withCells(nil, nil), cell: 1, l: []api.Layer{kindA(99), rye}, e: api.ErrGrain},
		{what: "another grain", b: example(), cell: 1, l: []api.Layer{{Grain: "rye", Mass: 99, Shares: alone("a")}}, e: api.ErrGrain},
		{what: "another grain behind the same one", b: example(), cell: 1, l: []api.Layer{kindA(1), rye}, e: api.ErrGrain},
		{what: "no room", b: example(), cell: 0, l: []api.Layer{kindA(15)}, e: api.ErrFull},
		{what: "no room for the greatest mass", b: example(), cell: 1, l: []api.Layer{kindA(most)}, e: api.ErrFull},
		{what: "too high above a neighbour", b: example(), cell: 0, l: []api.Layer{kindA(2)}, e: api.ErrSafe},
		{what: "too high above a neighbour, up to the room", b: example(), cell: 1, l: []api.Layer{kindA(24)}, e: api.ErrSafe},
		{what: "too many layers", b: wide, cell: 0, l: []api.Layer{kindB(6)}, e: api.ErrMany},
		{what: "too many layers without room", b: wide, cell: 0, l: []api.Layer{kindB(7)}, e: api.ErrFull},
		{what: "another grain and too many layers", b: wide, cell: 0, l: []api.Layer{rye}, e: api.ErrGrain},
		{what: "many layers that are alike", b: withCells(slices.Repeat([]api.Layer{kindA(1)}, 12), nil), cell: 1, l: slices.Repeat([]api.Layer{kindA(1)}, 24), want: withCells([]api.Layer{kindA(12)}, []api.Layer{kindA(24)})},
	} {
		got, e := bin.Fill(row.b, row.cell, row.l)
		expect(t, row.what, []any{got, e}, []any{row.want, row.e})
	}
	narrow := wide
	narrow.Side = 64
	_, e := bin.Fill(narrow, 0, []api.Layer{kindB(1)})
	expect(t, "too many layers, too high above a neighbour", e, api.ErrSafe)
	got, e := bin.Fill(wide, 0, []api.Layer{kindA(6)})
	expect(t, "as many layers as before", e, api.OK)
	expect(t, "as many layers as before", got.Cells[0][63], kindA(7))
}

func TestDraw(t *testing.T) {
	inMass := example()
	inMass.Flow, inMass.Core = "mass", 0
	drawn := func(b api.Bin, cells ...[]api.Layer) api.Bin { b.Cells = cells; return b }
	loose := withCells([]api.Layer{kindA(1), kindA(1)}, []api.Layer{kindB(1), kindB(2)})
	for _, row := range []struct {
		what    string
		b       api.Bin
		cell    int
		mass    int
		want    api.Bin
		outflow []api.Layer
		e       api.Errno
	}{
		{what: "the example", b: example(), mass: 3, want: withCells([]api.Layer{kindA(9), kindB(4)}, []api.Layer{kindA(5)}), outflow: []api.Layer{kindB(2), kindA(1)}},
		{what: "mass flow", b: inMass, mass: 3, want: drawn(inMass, []api.Layer{kindA(7), kindB(6)}, []api.Layer{kindA(5)}), outflow: []api.Layer{kindA(3)}},
		{what: "mass flow over a border", b: inMass, mass: 12, want: drawn(inMass, []api.Layer{kindB(4)}, []api.Layer{kindA(5)}), outflow: []api.Layer{kindA(10), kindB(2)}},
		{what: "all", b: example(), mass: 16, want: withCells(nil, []api.Layer{kindA(5)}), outflow: []api.Layer{kindB(6), kindA(10)}},
		{what: "all in mass flow", b: inMass, mass: 16, want: drawn(inMass, nil, []api.Layer{kindA(5)}), outflow: parcel()},
		{what: "nothing", b: loose, mass: 0, want: withCells([]api.Layer{kindA(2)}, []api.Layer{kindB(3)})},
		{what: "one from the bottom", b: example(), mass: 1, want: withCells([]api.Layer{kindA(9), kindB(6)}, []api.Layer{kindA(5)}), outflow: []api.Layer{kindA(1)}},
		{what: "one from the top", b: withCells([]api.Layer{kindA(5), kindB(2)}), mass: 1, want: withCells([]api.Layer{kindA(5), kindB(1)}), outflow: []api.Layer{kindB(1)}},
		{what: "the other cell", b: example(), cell: 1, mass: 1, want: withCells(parcel(), []api.Layer{kindA(4)}), outflow: []api.Layer{kindA(1)}},
		{what: "too much", b: example(), mass: 17, e: api.ErrEmpty}, {what: "too much, and not safe", b: example(), cell: 1, mass: 6, e: api.ErrEmpty},
		{what: "by far too much", b: example(), mass: math.MaxInt, e: api.ErrEmpty}, {what: "not safe", b: example(), cell: 1, mass: 2, e: api.ErrSafe},
		{what: "less than nothing", b: example(), mass: -1, e: api.ErrRange}, {what: "much less than nothing", b: example(), cell: 1, mass: math.MinInt, e: api.ErrRange},
	} {
		got, outflow, e := bin.Draw(row.b, row.cell, row.mass)
		expect(t, row.what, []any{got, e}, []any{row.want, row.e})
		expectList(t, row.what, outflow, row.outflow)
	}
}

// severed returns a bin with 64 layers in its first cell: a draw of all cuts one of them, that of the lot z, in two, so that 65 layers flow out.
func severed() api.Bin {
	l := alternating(64, 1)
	l[31] = wheat(2, alone("z"))
	return ofCells(2, l, nil)
}

func TestDrawOfTooManyLayers(t *testing.T) {
	b := severed()
	outflow, _ := takeOut(b, 0, 65)
	expect(t, "the layers that flow out", layersOf(outflow), 65)
	got, l, e := bin.Draw(b, 0, 65)
	expect(t, "65 layers", []any{got, e}, []any{api.Bin{}, api.ErrMany})
	expectList(t, "65 layers", l, nil)
	expect(t, "Most does not look at layers", must(bin.Most(b, 0)), 65)
	expect(t, "First does not look at layers", must(bin.First(b, 0, "z")), 64)
	expect(t, "Last does not look at layers", must(bin.Last(b, 0, "z")), 65)
	_, l, e = bin.Draw(b, 0, 64)
	expect(t, "64 layers", []any{len(l), e}, []any{64, api.OK})
	_, e = bin.Turn(b, 0, 1, 65)
	expect(t, "Turn of 65 layers", e, api.ErrMany)
	steps, e := bin.Empty(b)
	expect(t, "Empty does not look at layers", []any{steps, e}, []any{[]api.Pour{{Hold: 0, Mass: 65}}, api.OK})
	_, _, e = bin.Draw(ofSide(0, b.Cells[0], []api.Layer{kindA(65)}), 0, 65)
	expect(t, "too many layers, and not safe", e, api.ErrSafe)
}

// ofSide returns a funnel bin whose levels may differ by side.
func ofSide(side int, cells ...[]api.Layer) api.Bin {
	b := ofCells(2, cells...)
	b.Side = side
	return b
}

// must returns a result of a call that has to succeed.
func must[T any](result T, e api.Errno) T {
	if e != api.OK {
		panic(fmt.Sprint("error ", e))
	}
	return result
}

func TestTurn(t *testing.T) {
	rye := []api.Layer{{Grain: "rye", Mass: 5, Shares: alone("a")}}
	tall := ofCells(0, []api.Layer{kindB(1)}, alternating(64, 1))
	for _, row := range []struct {
		what     string
		b        api.Bin
		from, to int
		mass     int
		want     api.Bin
		e        api.Errno
	}{
		{what: "from the first one", b: example(), from: 0, to: 1, mass: 3, want: withCells([]api.Layer{kindA(9), kindB(4)}, []api.Layer{kindA(5), kindB(2), kindA(1)})},
		{what: "from the second one", b: example(), from: 1, to: 0, mass: 0, want: example()},
		{what: "nothing", b: withCells([]api.Layer{kindA(1), kindA(1)}, []api.Layer{kindB(1), kindB(2)}), from: 0, to: 1, want: withCells([]api.Layer{kindA(2)}, []api.Layer{kindB(3)})},
		{what: "into an empty one", b: withCells([]api.Layer{kindA(5), kindB(2)}, nil), from: 0, to: 1, mass: 7, want: withCells(nil, []api.Layer{kindB(2), kindA(5)})},
		{what: "less than nothing, into the same one", b: example(), from: 0, to: 0, mass: -1, e: api.ErrRange},
		{what: "into the same one", b: example(), from: 0, to: 0, mass: 99, e: api.ErrTwice}, {what: "nothing into the same one", b: example(), from: 1, to: 1, e: api.ErrTwice},
		{what: "too much", b: withCells(parcel(), rye), from: 0, to: 1, mass: 17, e: api.ErrEmpty},
		{what: "not safe for the draw alone", b: example(), from: 1, to: 0, mass: 2, e: api.ErrSafe},
		{what: "not safe for what is filled", b: withCells([]api.Layer{kindA(10)}, []api.Layer{kindA(12)}, []api.Layer{kindA(1)}), from: 0, to: 1, mass: 2, e: api.ErrSafe},
		{what: "another grain, without room", b: withCells([]api.Layer{kindA(30)}, []api.Layer{{Grain: "rye", Mass: 29, Shares: alone("a")}}), from: 0, to: 1, mass: 2, e: api.ErrGrain},
		{what: "another grain", b: withCells(parcel(), rye), from: 0, to: 1, mass: 2, e: api.ErrGrain},
		{what: "no room", b: withCells([]api.Layer{kindA(30)}, []api.Layer{kindA(29)}), from: 0, to: 1, mass: 2, e: api.ErrFull},
		{what: "too many layers", b: tall, from: 0, to: 1, mass: 1, e: api.ErrMany},
	} {
		got, e := bin.Turn(row.b, row.from, row.to, row.mass)
		expect(t, row.what, []any{got, e}, []any{row.want, row.e})
	}
	expect(t, "the fill is looked at behind the draw", must(bin.Spare(example(), 0)), 1)
	got, e := bin.Turn(withCells([]api.Layer{kindA(18)}, []api.Layer{kindA(6)}, nil), 1, 2, 1)
	expect(t, "the draw is looked at alone", []any{got, e}, []any{api.Bin{}, api.ErrSafe})
}

// checkOperations checks what is filled, drawn and turned in a small bin, kilogram for kilogram.
func checkOperations(t *testing.T, r *rand.Rand, b api.Bin) {
	t.Helper()
	before := copyOfBin(b)
	cell := r.Intn(len(b.Cells))
	mass := r.Intn(must(bin.Most(b, cell)) + 1)
	what := fmt.Sprint("Draw of ", mass, " from ", cell, " of ", b)
	outflow, rest := takeOut(b, cell, mass)
	got, l, e := bin.Draw(b, cell, mass)
	if layersOf(outflow) > api.MaxLayers {
		expect(t, what, e, api.ErrMany)
		return
	}
	expect(t, what, e, api.OK)
	expectParcel(t, what, l, outflow)
	checkCells(t, what, got, b, map[int][]string{cell: rest})
	other := r.Intn(len(b.Cells))
	what = fmt.Sprint("Turn of ", mass, " from ", cell, " to ", other, " of ", b)
	turned, e := bin.Turn(b, cell, other, mass)
	if other == cell {
		expect(t, what, e, api.ErrTwice)
	} else {
		filled, want := bin.Fill(got, other, l)
		expect(t, what, []any{turned, e}, []any{filled, want})
		if e == api.OK {
			checkCells(t, what, turned, b, map[int][]string{cell: rest, other: append(kilograms(b.Cells[other]), outflow...)})
		}
	}
	expect(t, "the argument", b, before)
}

// checkCells checks a bin that some operations made of another one, by what is in the cells that they changed.
func checkCells(t *testing.T, what string, got, b api.Bin, changed map[int][]string) {
	t.Helper()
	expect(t, what, bin.CheckBin(got), api.OK)
	expect(t, what, []any{got.Flow, got.Core, got.Room, got.Side, len(got.Cells)}, []any{b.Flow, b.Core, b.Room, b.Side, len(b.Cells)})
	for i, l := range b.Cells {
		want, isChanged := changed[i]
		if !isChanged {
			want = kilograms(l)
		}
		expectParcel(t, what, got.Cells[i], want)
	}
}

func TestOperationsKilogramForKilogram(t *testing.T) {
	r := rand.New(rand.NewSource(44))
	for i := range 3000 {
		layers := 6
		if i%6 == 0 {
			layers = 64
		}
		checkOperations(t, r, randomBin(r, layers))
	}
}

// TestDrawFromGreatLevels checks which kilograms leave a cell that is by far too high for a count of all of them.
func TestDrawFromGreatLevels(t *testing.T) {
	r := rand.New(rand.NewSource(45))
	for range 300 {
		low := 1 + r.Intn(most-1)
		b := ofCells(max(2, []int{2, 3, 7, 1000, most, low / 2, low}[r.Intn(7)]), []api.Layer{kindA(low), kindB(most - low)})
		mass := r.Intn(1000)
		fromBelow := 0
		for n := most; n > most-mass; n-- {
			if n%b.Core == 0 {
				fromBelow++
			}
		}
		if fromBelow > low || mass-fromBelow > most-low {
			continue
		}
		got, outflow, e := bin.Draw(b, 0, mass)
		what := fmt.Sprint("Draw of ", mass, " from ", b)
		expect(t, what, e, api.OK)
		want := slices.DeleteFunc([]api.Layer{kindB(mass - fromBelow), kindA(fromBelow)}, func(x api.Layer) bool { return x.Mass == 0 })
		expectList(t, what, outflow, want)
		want = slices.DeleteFunc([]api.Layer{kindA(low - fromBelow), kindB(most - low - mass + fromBelow)}, func(x api.Layer) bool { return x.Mass == 0 })
		expectList(t, what, got.Cells[0], want)
	}
}

// P4.4: emptying.

func TestEmpty(t *testing.T) {
	pours := func(numbers ...int) []api.Pour {
		var l []api.Pour
		for i := 0; i < len(numbers); i += 2 {
			l = append(l, api.Pour{Hold: numbers[i], Mass: numbers[i+1]})
		}
		return l
	}
	level := func(masses ...int) [][]api.Layer {
		var cells [][]api.Layer
		for _, mass := range masses {
			cells = append(cells, []api.Layer{kindA(mass)})
		}
		return cells
	}
	for _, row := range []struct {
		what string
		b    api.Bin
		want []api.Pour
		e    api.Errno
	}{
		{what: "the example", b: example(), want: pours(0, 16, 1, 5)}, {what: "nothing", b: ofSide(0, nil, nil)}, {what: "one cell", b: ofSide(0, level(7)...), want: pours(0, 7)},
		{what: "empty cells", b: ofCells(0, nil, []api.Layer{kindA(most)}, nil), want: pours(1, most)},
		{what: "the first one of the highest ones", b: ofSide(9, level(4, 5, 5)...), want: pours(1, 5, 2, 5, 0, 4)},
		{what: "small steps", b: ofSide(2, level(3, 3)...), want: pours(0, 2, 1, 3, 0, 1)},
		{what: "three cells", b: ofSide(3, level(4, 4, 6)...), want: pours(2, 5, 0, 3, 1, 4, 0, 1, 2, 1)},
		{what: "no difference", b: ofSide(0, level(1, 1)...), e: api.ErrNone}, {what: "no difference of many", b: ofSide(0, level(most, most, most)...), e: api.ErrNone},
		{what: "too many steps", b: ofSide(1, level(256, 256)...), e: api.ErrLimit}, {what: "by far too many steps", b: ofSide(1, level(most, most)...), e: api.ErrLimit},
	} {
		got, e := bin.Empty(row.b)
		expect(t, row.what, e, row.e)
		expectList(t, row.what, got, row.want)
	}
	got, e := bin.Empty(ofSide(1, level(255, 255)...))
	expect(t, "the most steps", []any{len(got), e}, []any{api.MaxList, api.OK})
}

// TestEmptyStepForStep checks the steps of small bins, each one as a draw.
func TestEmptyStepForStep(t *testing.T) {
	r := rand.New(rand.NewSource(46))
	for range 1000 {
		b := randomBin(r, 6)
		what := fmt.Sprint("Empty of ", b)
		steps, e := bin.Empty(b)
		if b.Side == 0 && len(b.Cells) > 1 && weight(b.Cells[0]) > 0 {
			expect(t, what, e, api.ErrNone)
			expectList(t, what, steps, nil)
			continue
		}
		expect(t, what, e, api.OK)
		for _, s := range steps {
			l := levels(b)
			expect(t, what, s, api.Pour{Hold: slices.Index(l, slices.Max(l)), Mass: must(bin.Most(b, s.Hold))})
			drawn, _, e := bin.Draw(b, s.Hold, s.Mass)
			expect(t, what, e, api.OK)
			b = drawn
		}
		expect(t, what, slices.Max(levels(b)), 0)
	}
}
