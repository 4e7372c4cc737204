package bin_test

import (
	"fmt"
	"math/rand"
	"testing"

	"bushel/api"
	"bushel/bin"
)

// P4.6 and P5: what follows from the promises of parcels and bins.

// TestOutflowAndRestAreWhatWasThere checks draws, also of great masses, lot by lot.
func TestOutflowAndRestAreWhatWasThere(t *testing.T) {
	r := rand.New(rand.NewSource(49))
	for range 1000 {
		b := randomBin(r, 12)
		if r.Intn(2) == 0 {
			b = enlarged(r, b)
		}
		cell := r.Intn(len(b.Cells))
		mass := r.Intn(must(bin.Most(b, cell)) + 1)
		what := fmt.Sprint("Draw of ", mass, " from ", cell, " of ", b)
		got, outflow, e := bin.Draw(b, cell, mass)
		expect(t, what, e, api.OK)
		expect(t, what, must(bin.Mass(outflow)), mass)
		expect(t, what, must(bin.Mass(got.Cells[cell])), weight(b.Cells[cell])-mass)
		expectList(t, what, amountsIn(outflow, got.Cells[cell]), amountsIn(b.Cells[cell]))
		expect(t, what, bin.CheckBin(got), api.OK)
	}
}

// enlarged returns a bin with layers of a great mass, within its limits.
func enlarged(r *rand.Rand, b api.Bin) api.Bin {
	b = copyOfBin(b)
	for _, l := range b.Cells {
		for i := range l {
			l[i].Mass += r.Intn(most / 20)
		}
	}
	b.Room, b.Side = most, most-r.Intn(1000)
	return b
}

// TestDrawInParts checks that a draw in parts leaves the same rest as a draw at once.
func TestDrawInParts(t *testing.T) {
	r := rand.New(rand.NewSource(50))
	for range 1000 {
		b := randomBin(r, 12)
		if r.Intn(2) == 0 {
			b = enlarged(r, b)
		}
		cell := r.Intn(len(b.Cells))
		mass := r.Intn(must(bin.Most(b, cell)) + 1)
		what := fmt.Sprint("Draw of ", mass, " from ", cell, " of ", b)
		once, whole, e := bin.Draw(b, cell, mass)
		expect(t, what, e, api.OK)
		var inParts []api.Layer
		for _, part := range randomSum(r, mass) {
			drawn, outflow, e := bin.Draw(b, cell, part)
			expect(t, what, e, api.OK)
			inParts = append(inParts, outflow...)
			b = drawn
		}
		expectList(t, what, amountsIn(inParts), amountsIn(whole))
		expectList(t, what, b.Cells[cell], once.Cells[cell])
		if b.Flow == "mass" {
			joined, e := bin.Join(nil, inParts)
			if e == api.OK {
				expectList(t, what, joined, whole)
			}
		}
	}
}

// randomSum returns a 0, and positive numbers with this sum.
func randomSum(r *rand.Rand, sum int) []int {
	l := []int{0}
	for sum > 0 {
		part := 1 + r.Intn(sum)
		l = append(l, part)
		sum -= part
	}
	return l
}

// TestMassFlowKeepsTheOrder checks that what was filled in first leaves first.
func TestMassFlowKeepsTheOrder(t *testing.T) {
	r := rand.New(rand.NewSource(51))
	for range 500 {
		b := ofCells(0, nil, nil)
		var filled []api.Layer
		for range 1 + r.Intn(5) {
			l := randomParcel(r, 6, "wheat")
			got, e := bin.Fill(b, 1, l)
			expect(t, "Fill", e, api.OK)
			expect(t, "a bin behind Fill", bin.CheckBin(got), api.OK)
			b, filled = got, append(filled, l...)
		}
		_, outflow, e := bin.Draw(b, 1, weight(filled))
		expect(t, "Draw", e, api.OK)
		expectParcel(t, fmt.Sprint(filled), outflow, kilograms(filled))
	}
}

// TestLimitsHoldBehindAllOperations checks bins behind many operations, whose amounts never change altogether.
func TestLimitsHoldBehindAllOperations(t *testing.T) {
	r := rand.New(rand.NewSource(52))
	for range 100 {
		b := api.Bin{Flow: "funnel", Core: 2 + r.Intn(4), Room: 40, Side: 12, Cells: make([][]api.Layer, 1+r.Intn(5))}
		var outside []api.Layer
		done := 0
		for i := range 100 {
			cell, other := r.Intn(len(b.Cells)), r.Intn(len(b.Cells))
			inside, e := b, api.OK
			l := []api.Layer{wheat(1+r.Intn(13), alone(fmt.Sprint("x", i)))}
			switch r.Intn(3) {
			case 0:
				inside, e = bin.Fill(b, cell, l)
				l[0].Mass = -l[0].Mass
			case 1:
				inside, l, e = bin.Draw(b, cell, r.Intn(15))
			case 2:
				inside, e = bin.Turn(b, cell, other, r.Intn(15))
				l = nil
			}
			if e != api.OK {
				expect(t, "a bin beside an error", inside, api.Bin{})
				continue
			}
			done++
			b, outside = inside, append(outside, l...)
			expect(t, fmt.Sprint(b), bin.CheckBin(b), api.OK)
			expect(t, fmt.Sprint(b), areSafe(b, levels(b)), true)
			for lot, mass := range massesIn(append(b.Cells, outside)...) {
				expect(t, "what is gone of "+lot, mass.RatString(), "0")
			}
		}
		if done < 10 {
			t.Errorf("only %d operations without an error", done)
		}
	}
}

// TestResultsShareNoMemory checks that neither arguments nor other results change with a result.
func TestResultsShareNoMemory(t *testing.T) {
	r := rand.New(rand.NewSource(53))
	for range 300 {
		b := randomBin(r, 6)
		b.Cells = append(b.Cells, nil)
		b.Room, b.Side = most, most
		l := append(randomParcel(r, 6, "wheat"), kindB(3), kindA(1))
		given, givenBin := copyOf(l), copyOfBin(b)
		cell, last := r.Intn(len(b.Cells)-1), len(b.Cells)-1
		mass := r.Intn(weight(b.Cells[cell]) + 1)
		var results [][]api.Layer
		first, rest, _ := bin.Split(l, 2)
		shrunk, _, _ := bin.Shrink(l, 1)
		results = append(results, first, rest, must(bin.Normal(l)), must(bin.Join(l, l)), []api.Layer{shrunk, must(bin.Pool(l, "x"))})
		drawn, outflow, _ := bin.Draw(b, cell, mass)
		results = append(append(results, outflow), drawn.Cells...)
		results = append(results, must(bin.Fill(b, last, l)).Cells...)
		results = append(results, must(bin.Turn(b, cell, last, mass)).Cells...)
		checkApart(t, results)
		expect(t, "the parcel", l, given)
		expect(t, "the bin", b, givenBin)
	}
}

// checkApart changes every layer and share of each parcel in turn, also beyond its length, and checks that no other parcel changes with it.
func checkApart(t *testing.T, parcels [][]api.Layer) {
	t.Helper()
	var want [][]api.Layer
	for _, l := range parcels {
		want = append(want, copyOf(l))
	}
	for i, l := range parcels {
		all := l[:cap(l)]
		for k := range all {
			all[k].Grain = "changed"
			shares := all[k].Shares[:cap(all[k].Shares)]
			for s := range shares {
				shares[s].Lot = "changed"
			}
		}
		want[i] = copyOf(l)
		for k := range parcels {
			expectList(t, fmt.Sprint("the result ", k, " behind a change of the result ", i), parcels[k], want[k])
		}
	}
}
