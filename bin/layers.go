package bin

import (
	"iter"
	"slices"

	"bushel/api"
)

// forwards visits the layers of a parcel from the first one on, which in a cell is the lowest one.
func forwards(l []api.Layer) iter.Seq[api.Layer] { return fromEnd(l, 0, 1) }

// backwards visits the layers of a parcel from the last one on, which in a cell is the highest one.
func backwards(l []api.Layer) iter.Seq[api.Layer] { return fromEnd(l, len(l)-1, -1) }

// fromEnd visits the layers of a parcel, beginning at one of its ends, and going on by 1 or -1.
func fromEnd(l []api.Layer, end, step int) iter.Seq[api.Layer] {
	return func(yield func(api.Layer) bool) {
		for i := range l {
			if !yield(l[end+i*step]) {
				return
			}
		}
	}
}

// cut visits what the kilograms behind the first from ones, up to the kilogram to, have of layers.
func cut(layers iter.Seq[api.Layer], from, to int) iter.Seq[api.Layer] {
	return func(yield func(api.Layer) bool) {
		before := 0
		for x := range layers {
			first, last := max(from, before), min(to, before+x.Mass)
			before += x.Mass
			x.Mass = last - first
			if x.Mass > 0 && !yield(x) {
				return
			}
		}
	}
}

// chain visits layers, and others behind them.
func chain(parts ...iter.Seq[api.Layer]) iter.Seq[api.Layer] {
	return func(yield func(api.Layer) bool) {
		for _, layers := range parts {
			for x := range layers {
				if !yield(x) {
					return
				}
			}
		}
	}
}

// normal returns the normal form of layers, in memory of its own.
func normal(layers iter.Seq[api.Layer]) []api.Layer {
	var l []api.Layer
	for x := range layers {
		if last := len(l) - 1; last >= 0 && areAlike(l[last], x) {
			l[last].Mass += x.Mass
			continue
		}
		x.Shares = slices.Clone(x.Shares)
		l = append(l, x)
	}
	return l
}

// areAlike reports whether two layers have the same grain, and the same shares: equal numbers have equal texts.
func areAlike(a, b api.Layer) bool {
	return a.Grain == b.Grain && slices.Equal(a.Shares, b.Shares)
}

// massOf returns the mass of layers together.
func massOf(layers iter.Seq[api.Layer]) int {
	mass := 0
	for x := range layers {
		mass += x.Mass
	}
	return mass
}

// areOfOneGrain reports whether no two layers have different grains.
func areOfOneGrain(layers iter.Seq[api.Layer]) bool {
	// No grain has an empty name.
	grain := ""
	for x := range layers {
		if grain != "" && x.Grain != grain {
			return false
		}
		grain = x.Grain
	}
	return true
}
