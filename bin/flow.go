package bin

import (
	"iter"

	"bushel/api"
)

// lowest returns how many of the kilograms that leave a cell are its lowest ones.
func lowest(b api.Bin, level, mass int) int {
	if b.Flow == massFlow {
		return mass
	}
	return level/b.Core - (level-mass)/b.Core
}

// flow visits what flows out of a cell in a draw of at most its level, and the rest, from the bottom to the top.
func flow(b api.Bin, cell, mass int) (outflow, rest iter.Seq[api.Layer]) {
	l := b.Cells[cell]
	level := massOf(forwards(l))
	fromBelow := lowest(b, level, mass)
	fromAbove := mass - fromBelow
	outflow = chain(cut(backwards(l), 0, fromAbove), cut(forwards(l), 0, fromBelow))
	return outflow, cut(forwards(l), fromBelow, level-fromAbove)
}

// with returns a bin in which a cell has these layers, in memory of its own.
func with(b api.Bin, cell int, layers iter.Seq[api.Layer]) api.Bin {
	var cells [][]api.Layer
	for i, l := range b.Cells {
		if i == cell {
			cells = append(cells, normal(layers))
		} else {
			cells = append(cells, normal(forwards(l)))
		}
	}
	b.Cells = cells
	return b
}

// Fill returns the bin with a parcel on top of a cell.
func Fill(b api.Bin, cell int, l []api.Layer) (api.Bin, api.Errno) {
	if e := checkCell(b, cell); e != api.OK {
		return api.Bin{}, e
	}
	if e := CheckParcel(l); e != api.OK {
		return api.Bin{}, e
	}
	return fill(b, cell, l)
}

// fill returns the bin with a parcel on top of a cell, for arguments without an error.
func fill(b api.Bin, cell int, l []api.Layer) (api.Bin, api.Errno) {
	filled := chain(forwards(b.Cells[cell]), forwards(l))
	level := massOf(filled)
	switch {
	case !areOfOneGrain(filled):
		return api.Bin{}, api.ErrGrain
	case level > b.Room:
		return api.Bin{}, api.ErrFull
	case level > limitsOf(b, levelsOf(b), cell).High:
		return api.Bin{}, api.ErrSafe
	}
	result := with(b, cell, filled)
	if len(result.Cells[cell]) > api.MaxLayers {
		return api.Bin{}, api.ErrMany
	}
	return result, api.OK
}

// Draw returns the bin without a mass, and the outflow.
func Draw(b api.Bin, cell, mass int) (api.Bin, []api.Layer, api.Errno) {
	if e := checkCell(b, cell); e != api.OK {
		return api.Bin{}, nil, e
	}
	if mass < 0 {
		return api.Bin{}, nil, api.ErrRange
	}
	return draw(b, cell, mass)
}

// draw returns the bin without a mass, and the outflow, for arguments without an error.
func draw(b api.Bin, cell, mass int) (api.Bin, []api.Layer, api.Errno) {
	levels := levelsOf(b)
	switch {
	case levels[cell] < mass:
		return api.Bin{}, nil, api.ErrEmpty
	case levels[cell]-mass < limitsOf(b, levels, cell).Low:
		return api.Bin{}, nil, api.ErrSafe
	}
	outflow, rest := flow(b, cell, mass)
	parcel := normal(outflow)
	if len(parcel) > api.MaxLayers {
		return api.Bin{}, nil, api.ErrMany
	}
	return with(b, cell, rest), parcel, api.OK
}

// Turn returns the bin in which a mass has moved from a cell to another one.
func Turn(b api.Bin, from, to, mass int) (api.Bin, api.Errno) {
	if e := checkCell(b, from); e != api.OK {
		return api.Bin{}, e
	}
	switch {
	case to < 0 || to >= len(b.Cells):
		return api.Bin{}, api.ErrUnknown
	case mass < 0:
		return api.Bin{}, api.ErrRange
	case from == to:
		return api.Bin{}, api.ErrTwice
	}
	drawn, outflow, e := draw(b, from, mass)
	if e != api.OK {
		return api.Bin{}, e
	}
	return fill(drawn, to, outflow)
}

// Empty returns draws that empty all cells.
func Empty(b api.Bin) ([]api.Pour, api.Errno) {
	if e := CheckBin(b); e != api.OK {
		return nil, e
	}
	levels := levelsOf(b)
	var steps []api.Pour
	for {
		cell := highest(levels)
		mass := levels[cell] - limitsOf(b, levels, cell).Low
		switch {
		case levels[cell] == 0:
			return steps, api.OK
		case mass == 0:
			return nil, api.ErrNone
		case len(steps) == api.MaxList:
			return nil, api.ErrLimit
		}
		steps = append(steps, api.Pour{Hold: cell, Mass: mass})
		levels[cell] -= mass
	}
}

// highest returns the first cell of those with the greatest level.
func highest(levels []int) int {
	var cells []int
	for cell := range levels {
		cells = append(cells, cell)
	}
	return extreme(func(i, k int) bool { return levels[i] > levels[k] }, 0, cells...)
}
