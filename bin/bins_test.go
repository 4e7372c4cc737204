package bin_test

import (
	"fmt"
	"math"
	"math/rand"
	"slices"
	"testing"

	"bushel/api"
	"bushel/bin"
)

// P4.1 and P4.3: forms of bins, levels and limits.

func TestCheckBin(t *testing.T) {
	for what, b := range map[string]api.Bin{
		"the example": example(), "an empty cell": {Flow: "mass", Room: 1, Cells: [][]api.Layer{nil}},
		"the most empty cells":           {Flow: "funnel", Core: 2, Room: most, Side: most, Cells: make([][]api.Layer, api.MaxCells)},
		"the greatest core":              {Flow: "funnel", Core: most, Room: 1, Cells: [][]api.Layer{{kindA(1)}, {kindA(1)}}},
		"the greatest levels":            {Flow: "mass", Room: most, Side: 0, Cells: [][]api.Layer{{kindA(most)}, {kindB(most - 1), kindA(1)}}},
		"the greatest difference":        {Flow: "mass", Room: 30, Side: 5, Cells: [][]api.Layer{{kindA(3)}, {kindA(8)}, {kindA(3)}}},
		"a difference of others":         {Flow: "mass", Room: 30, Side: 5, Cells: [][]api.Layer{nil, {kindA(5)}, {kindA(10)}, {kindA(15)}}},
		"different grains":               {Flow: "mass", Room: 30, Side: 5, Cells: [][]api.Layer{{kindA(3)}, nil, {{Grain: "rye", Mass: 2, Shares: alone("a")}}}},
		"layers that are alike":          {Flow: "mass", Room: 64, Cells: [][]api.Layer{slices.Repeat([]api.Layer{kindA(1)}, 64)}},
		"the most layers of a full cell": {Flow: "mass", Room: 64, Cells: [][]api.Layer{alternating(64, 1)}},
	} {
		expect(t, what, bin.CheckBin(b), api.OK)
	}
	for _, bad := range badBins() {
		expect(t, bad.what, bin.CheckBin(bad.b), bad.e)
	}
}

// TestBadBins checks that each function returns the error of a bin before those of arguments behind it, and nothing else.
func TestBadBins(t *testing.T) {
	bad64 := make([]api.Layer, api.MaxLayers+1)
	for _, bad := range badBins() {
		levels, e := bin.Levels(bad.b)
		expect(t, "Levels: "+bad.what, e, bad.e)
		expectList(t, "Levels: "+bad.what, levels, nil)
		mass, e := bin.Most(bad.b, -1)
		expect(t, "Most: "+bad.what, []any{mass, e}, []any{0, bad.e})
		mass, e = bin.Spare(bad.b, -1)
		expect(t, "Spare: "+bad.what, []any{mass, e}, []any{0, bad.e})
		b, e := bin.Fill(bad.b, -1, bad64)
		expect(t, "Fill: "+bad.what, []any{b, e}, []any{api.Bin{}, bad.e})
		b, l, e := bin.Draw(bad.b, -1, -1)
		expect(t, "Draw: "+bad.what, []any{b, e}, []any{api.Bin{}, bad.e})
		expectList(t, "Draw: "+bad.what, l, nil)
		b, e = bin.Turn(bad.b, -1, -1, -1)
		expect(t, "Turn: "+bad.what, []any{b, e}, []any{api.Bin{}, bad.e})
		steps, e := bin.Empty(bad.b)
		expect(t, "Empty: "+bad.what, e, bad.e)
		expectList(t, "Empty: "+bad.what, steps, nil)
		masses, e := bin.Where(bad.b, "?")
		expect(t, "Where: "+bad.what, e, bad.e)
		expectList(t, "Where: "+bad.what, masses, nil)
		mass, e = bin.First(bad.b, -1, "?")
		expect(t, "First: "+bad.what, []any{mass, e}, []any{0, bad.e})
		mass, e = bin.Last(bad.b, -1, "?")
		expect(t, "Last: "+bad.what, []any{mass, e}, []any{0, bad.e})
	}
}

// TestUnknownCells checks that each function returns ErrUnknown before the errors of arguments behind the cell.
func TestUnknownCells(t *testing.T) {
	for _, cell := range []int{-1, 2, math.MinInt, math.MaxInt} {
		what := fmt.Sprint("cell ", cell)
		mass, e := bin.Most(example(), cell)
		expect(t, "Most: "+what, []any{mass, e}, []any{0, api.ErrUnknown})
		mass, e = bin.Spare(example(), cell)
		expect(t, "Spare: "+what, []any{mass, e}, []any{0, api.ErrUnknown})
		b, e := bin.Fill(example(), cell, make([]api.Layer, api.MaxLayers+1))
		expect(t, "Fill: "+what, []any{b, e}, []any{api.Bin{}, api.ErrUnknown})
		b, l, e := bin.Draw(example(), cell, -1)
		expect(t, "Draw: "+what, []any{b, e}, []any{api.Bin{}, api.ErrUnknown})
		expectList(t, "Draw: "+what, l, nil)
		for _, other := range []int{cell, 0, 1, -1} {
			for _, mass := range []int{-1, 0, 99} {
				b, e = bin.Turn(example(), cell, other, mass)
				expect(t, "Turn: "+what, []any{b, e}, []any{api.Bin{}, api.ErrUnknown})
				b, e = bin.Turn(example(), other, cell, mass)
				expect(t, "Turn: "+what, []any{b, e}, []any{api.Bin{}, api.ErrUnknown})
			}
		}
		mass, e = bin.First(example(), cell, "?")
		expect(t, "First: "+what, []any{mass, e}, []any{0, api.ErrUnknown})
		mass, e = bin.Last(example(), cell, "?")
		expect(t, "Last: "+what, []any{mass, e}, []any{0, api.ErrUnknown})
	}
}

func TestLevels(t *testing.T) {
	for _, row := range []struct {
		b    api.Bin
		want []int
	}{
		{example(), []int{16, 5}}, {ofCells(0, nil), []int{0}}, {ofCells(2, nil, []api.Layer{kindA(most)}, nil), []int{0, most, 0}},
		{ofCells(0, []api.Layer{kindA(2), kindA(2)}, []api.Layer{kindB(1)}), []int{4, 1}},
	} {
		got, e := bin.Levels(row.b)
		expect(t, fmt.Sprint("Levels of ", row.b), e, api.OK)
		expect(t, fmt.Sprint("Levels of ", row.b), got, row.want)
	}
}

func TestMostAndSpare(t *testing.T) {
	three := api.Bin{Flow: "mass", Room: 30, Side: 5, Cells: [][]api.Layer{{kindA(3)}, {kindA(8)}, {kindA(6)}}}
	great := api.Bin{Flow: "funnel", Core: 3, Room: most, Side: most, Cells: [][]api.Layer{{kindA(most)}, nil}}
	level := api.Bin{Flow: "mass", Room: 9, Side: 0, Cells: [][]api.Layer{{kindA(7)}, {kindA(7)}}}
	lone := api.Bin{Flow: "mass", Room: 9, Side: 0, Cells: [][]api.Layer{{kindA(7)}}}
	for _, row := range []struct {
		what        string
		b           api.Bin
		cell        int
		most, spare int
	}{
		{"the example", example(), 0, 16, 1}, {"the example", example(), 1, 1, 23},
		{"neighbours on both sides", three, 0, 0, 10}, {"neighbours on both sides", three, 1, 7, 0}, {"neighbours on both sides", three, 2, 3, 7},
		{"no limit but the room", great, 0, most, 0}, {"no limit but the room", great, 1, 0, most},
		{"no difference", level, 0, 0, 0}, {"no difference", level, 1, 0, 0}, {"one cell", lone, 0, 7, 2},
	} {
		got, e := bin.Most(row.b, row.cell)
		expect(t, fmt.Sprint("Most: ", row.what, row.cell), []any{got, e}, []any{row.most, api.OK})
		got, e = bin.Spare(row.b, row.cell)
		expect(t, fmt.Sprint("Spare: ", row.what, row.cell), []any{got, e}, []any{row.spare, api.OK})
	}
}

// TestMostAndSpareAreTheGreatest checks all masses of small bins against the limits.
func TestMostAndSpareAreTheGreatest(t *testing.T) {
	r := rand.New(rand.NewSource(43))
	for range 1500 {
		b := randomBin(r, 4)
		for cell := range b.Cells {
			canDraw, canFill := 0, 0
			for mass := range b.Room + 2 {
				l := levels(b)
				l[cell] -= mass
				isSafe := l[cell] >= 0 && areSafe(b, l)
				if isSafe {
					canDraw = mass
				}
				_, _, e := bin.Draw(b, cell, mass)
				expect(t, fmt.Sprint("Draw ", b, cell, mass), e == api.OK, isSafe)
				l = levels(b)
				l[cell] += mass
				isSafe = l[cell] <= b.Room && areSafe(b, l)
				if isSafe {
					canFill = mass
				}
				if mass > 0 {
					grain := append(slices.Clone(b.Cells[cell]), kindA(1))[0].Grain
					_, e = bin.Fill(b, cell, []api.Layer{{Grain: grain, Mass: mass, Shares: alone("new")}})
					expect(t, fmt.Sprint("Fill ", b, cell, mass), e == api.OK, isSafe)
				}
			}
			got, e := bin.Most(b, cell)
			expect(t, fmt.Sprint("Most ", b, cell), []any{got, e}, []any{canDraw, api.OK})
			got, e = bin.Spare(b, cell)
			expect(t, fmt.Sprint("Spare ", b, cell), []any{got, e}, []any{canFill, api.OK})
		}
	}
}
