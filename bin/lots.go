package bin

import (
	"iter"
	"slices"
	"sort"

	"bushel/api"
	"bushel/exact"
	"bushel/measure"
	"bushel/numbers"
)

// Amount is a mass of a lot.
type Amount struct {
	Lot  string
	Mass api.Rat
}

// lotsOf visits the lots of each layer, with their masses in it.
func lotsOf(layers iter.Seq[api.Layer]) iter.Seq2[string, exact.Number] {
	return func(yield func(string, exact.Number) bool) {
		for x := range layers {
			for _, s := range x.Shares {
				part, _ := numbers.Read(s.Part)
				if !yield(s.Lot, part.Times(exact.Whole(x.Mass))) {
					return
				}
			}
		}
	}
}

// amountsOf returns the amounts of layers, or ErrLarge.
func amountsOf(layers iter.Seq[api.Layer]) ([]Amount, api.Errno) {
	masses := map[string]exact.Number{}
	for lot, mass := range lotsOf(layers) {
		masses[lot] = masses[lot].Plus(mass)
	}
	var lots []string
	for lot := range masses {
		lots = append(lots, lot)
	}
	slices.Sort(lots)
	return numbers.Each(lots, func(lot string) (Amount, api.Errno) {
		mass, e := numbers.Write(masses[lot])
		return Amount{lot, mass}, e
	})
}

// hold reports whether layers have a part of a lot.
func hold(layers iter.Seq[api.Layer], lot string) bool {
	for x := range layers {
		if slices.ContainsFunc(x.Shares, func(s api.Share) bool { return s.Lot == lot }) {
			return true
		}
	}
	return false
}

// Lots returns the masses of the lots in a parcel.
func Lots(l []api.Layer) ([]Amount, api.Errno) {
	if e := CheckParcel(l); e != api.OK {
		return nil, e
	}
	return amountsOf(forwards(l))
}

// Where returns the mass of a lot in each cell.
func Where(b api.Bin, lot string) ([]api.Rat, api.Errno) {
	if e := CheckBin(b); e != api.OK {
		return nil, e
	}
	if !measure.IsName(lot) {
		return nil, api.ErrName
	}
	return numbers.Each(b.Cells, func(l []api.Layer) (api.Rat, api.Errno) {
		sum := exact.Number{}
		for name, mass := range lotsOf(forwards(l)) {
			if name == lot {
				sum = sum.Plus(mass)
			}
		}
		return numbers.Write(sum)
	})
}

// First returns how much is drawn until the first kilogram with a lot has left.
func First(b api.Bin, cell int, lot string) (int, api.Errno) {
	return leastDraw(b, cell, lot, func(outflow, rest iter.Seq[api.Layer]) bool { return hold(outflow, lot) })
}

// Last returns how much is drawn until the last kilogram with a lot has left.
func Last(b api.Bin, cell int, lot string) (int, api.Errno) {
	return leastDraw(b, cell, lot, func(outflow, rest iter.Seq[api.Layer]) bool { return !hold(rest, lot) })
}

// leastDraw returns the least draw from a cell with which something is done, and so it is with every greater one; ErrNone if the lot is not in the cell.
func leastDraw(b api.Bin, cell int, lot string, isDone func(outflow, rest iter.Seq[api.Layer]) bool) (int, api.Errno) {
	if e := checkCell(b, cell); e != api.OK {
		return 0, e
	}
	if !measure.IsName(lot) {
		return 0, api.ErrName
	}
	l := b.Cells[cell]
	if !hold(forwards(l), lot) {
		return 0, api.ErrNone
	}
	return sort.Search(massOf(forwards(l)), func(mass int) bool { return isDone(flow(b, cell, mass)) }), api.OK
}
