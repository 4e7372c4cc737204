package measure

import (
	"cmp"
	"maps"
	"slices"

	"bushel/api"
	"bushel/exact"
)

// sumOfWeights returns the sum of weights, or their first error.
func sumOfWeights(weights []int) (int, api.Errno) {
	sum := 0
	for _, w := range weights {
		if w < 0 || w > api.MaxMass {
			return 0, api.ErrRange
		}
		sum += w
	}
	if sum == 0 {
		return 0, api.ErrZero
	}
	return sum, api.OK
}

// Apportion divides a whole number in proportion to weights.
func Apportion(total int, weights []int) ([]int, api.Errno) {
	switch {
	case total < 0 || total > api.MaxMass:
		return nil, api.ErrRange
	case len(weights) == 0:
		return nil, api.ErrShape
	case len(weights) > api.MaxList:
		return nil, api.ErrMany
	}
	sum, e := sumOfWeights(weights)
	if e != api.OK {
		return nil, e
	}
	parts, rests, order := make([]int, len(weights)), make([]int, len(weights)), make([]int, len(weights))
	left := total
	for i, w := range weights {
		parts[i], rests[i], order[i] = total*w/sum, total*w%sum, i
		left -= parts[i]
	}
	// The order of equal remainders is kept, so that the first ones of them come first.
	slices.SortStableFunc(order, func(i, k int) int { return cmp.Compare(rests[k], rests[i]) })
	for _, i := range order[:left] {
		parts[i]++
	}
	return parts, api.OK
}

// readShares returns the parts of shares, or their first error.
func readShares(l []api.Share) ([]exact.Number, api.Errno) {
	if len(l) == 0 {
		return nil, api.ErrShape
	}
	if len(l) > api.MaxLots {
		return nil, api.ErrMany
	}
	// Every name is greater than the empty text, so that the first lot is always in order.
	before := ""
	sum := exact.Number{}
	parts, e := readEach(l, func(s api.Share) (exact.Number, api.Errno) {
		part, e := readShare(s, before)
		before = s.Lot
		sum = sum.Plus(part)
		return part, e
	})
	if e != api.OK {
		return nil, e
	}
	if sum.Compare(exact.Whole(1)) != 0 {
		return nil, api.ErrShare
	}
	return parts, api.OK
}

// readShare returns the part of a share behind that of the lot before, or its first error.
func readShare(s api.Share, before string) (exact.Number, api.Errno) {
	if !IsName(s.Lot) {
		return exact.Number{}, api.ErrName
	}
	if s.Lot <= before {
		return exact.Number{}, api.ErrOrder
	}
	part, e := read(s.Part)
	if e != api.OK {
		return exact.Number{}, e
	}
	if part.Sign() <= 0 {
		return exact.Number{}, api.ErrShare
	}
	return part, api.OK
}

// CheckShares returns the first error of a list of shares, or OK.
func CheckShares(l []api.Share) api.Errno {
	_, e := readShares(l)
	return e
}

// readLayer returns the parts of the lots of a layer, or its first error.
func readLayer(l api.Layer) ([]exact.Number, api.Errno) {
	if !IsName(l.Grain) {
		return nil, api.ErrName
	}
	if l.Mass < 1 || l.Mass > api.MaxMass {
		return nil, api.ErrRange
	}
	return readShares(l.Shares)
}

// CheckLayer returns the first error of a layer, or OK.
func CheckLayer(l api.Layer) api.Errno {
	_, e := readLayer(l)
	return e
}

// Mix returns the mixture of layers.
func Mix(l []api.Layer) (api.Layer, api.Errno) {
	if len(l) == 0 {
		return api.Layer{}, api.ErrShape
	}
	if len(l) > api.MaxLayers {
		return api.Layer{}, api.ErrMany
	}
	parts, e := readEach(l, readLayer)
	if e != api.OK {
		return api.Layer{}, e
	}
	mass := 0
	for _, x := range l {
		if x.Grain != l[0].Grain {
			return api.Layer{}, api.ErrGrain
		}
		mass += x.Mass
	}
	if mass > api.MaxMass {
		return api.Layer{}, api.ErrLarge
	}
	shares, e := sharesOf(massesOfLots(l, parts), mass)
	if e != api.OK {
		return api.Layer{}, e
	}
	return api.Layer{Grain: l[0].Grain, Mass: mass, Shares: shares}, api.OK
}

// massesOfLots returns the mass of each lot in all layers together; the parts are those of the layers' shares.
func massesOfLots(l []api.Layer, parts [][]exact.Number) map[string]exact.Number {
	masses := map[string]exact.Number{}
	for i, x := range l {
		for k, s := range x.Shares {
			masses[s.Lot] = masses[s.Lot].Plus(parts[i][k].Times(exact.Whole(x.Mass)))
		}
	}
	return masses
}

// sharesOf returns the shares of lots in a mass that consists of the masses of them.
func sharesOf(masses map[string]exact.Number, mass int) ([]api.Share, api.Errno) {
	if len(masses) > api.MaxLots {
		return nil, api.ErrMany
	}
	return readEach(slices.Sorted(maps.Keys(masses)), func(lot string) (api.Share, api.Errno) {
		part, e := write(masses[lot].Over(exact.Whole(mass)))
		return api.Share{Lot: lot, Part: part}, e
	})
}

// readMoisture returns the percentage of dry matter that a moisture leaves, or its first error.
func readMoisture(moisture api.Rat) (exact.Number, api.Errno) {
	water, e := read(moisture)
	if e != api.OK {
		return exact.Number{}, e
	}
	dry := exact.Whole(100).Minus(water)
	if water.Sign() < 0 || dry.Sign() <= 0 {
		return exact.Number{}, api.ErrRange
	}
	return dry, api.OK
}

// Matter returns the dry matter of a mass.
func Matter(mass int, moisture api.Rat) (api.Rat, api.Errno) {
	if mass < 0 || mass > api.MaxMass {
		return "", api.ErrRange
	}
	dry, e := readMoisture(moisture)
	if e != api.OK {
		return "", e
	}
	return write(exact.Whole(mass).Times(dry).Over(exact.Whole(100)))
}

// Wet returns what a mass is at another moisture.
func Wet(mass int, from, to api.Rat) (api.Rat, api.Errno) {
	if mass < 0 || mass > api.MaxMass {
		return "", api.ErrRange
	}
	dry, e := readEach([]api.Rat{from, to}, readMoisture)
	if e != api.OK {
		return "", e
	}
	return write(exact.Whole(mass).Times(dry[0]).Over(dry[1]))
}
