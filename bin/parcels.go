package bin

import (
	"slices"

	"bushel/api"
	"bushel/measure"
)

// CheckParcel returns the first error of a parcel, or OK.
func CheckParcel(l []api.Layer) api.Errno {
	if len(l) > api.MaxLayers {
		return api.ErrMany
	}
	for x := range forwards(l) {
		if e := measure.CheckLayer(x); e != api.OK {
			return e
		}
	}
	if massOf(forwards(l)) > api.MaxMass {
		return api.ErrLarge
	}
	return api.OK
}

// Normal returns the normal form of a parcel.
func Normal(l []api.Layer) ([]api.Layer, api.Errno) {
	if e := CheckParcel(l); e != api.OK {
		return nil, e
	}
	return normal(forwards(l)), api.OK
}

// Mass returns the mass of a parcel.
func Mass(l []api.Layer) (int, api.Errno) {
	if e := CheckParcel(l); e != api.OK {
		return 0, e
	}
	return massOf(forwards(l)), api.OK
}

// Split returns the first kilograms of a parcel, and the rest.
func Split(l []api.Layer, mass int) ([]api.Layer, []api.Layer, api.Errno) {
	if e := CheckParcel(l); e != api.OK {
		return nil, nil, e
	}
	if mass < 0 {
		return nil, nil, api.ErrRange
	}
	total := massOf(forwards(l))
	if total < mass {
		return nil, nil, api.ErrEmpty
	}
	return normal(cut(forwards(l), 0, mass)), normal(cut(forwards(l), mass, total)), api.OK
}

// Join returns one parcel behind another one.
func Join(a, b []api.Layer) ([]api.Layer, api.Errno) {
	if e := CheckParcel(a); e != api.OK {
		return nil, e
	}
	if e := CheckParcel(b); e != api.OK {
		return nil, e
	}
	both := chain(forwards(a), forwards(b))
	if massOf(both) > api.MaxMass {
		return nil, api.ErrLarge
	}
	joined := normal(both)
	if len(joined) > api.MaxLayers {
		return nil, api.ErrMany
	}
	return joined, api.OK
}

// Pool returns a parcel as one mixed layer.
func Pool(l []api.Layer, grain string) (api.Layer, api.Errno) {
	if e := CheckParcel(l); e != api.OK {
		return api.Layer{}, e
	}
	if !measure.IsName(grain) {
		return api.Layer{}, api.ErrName
	}
	return pool(l, grain)
}

// pool returns a parcel without an error as one mixed layer.
func pool(l []api.Layer, grain string) (api.Layer, api.Errno) {
	if len(l) == 0 {
		return api.Layer{}, api.ErrEmpty
	}
	renamed := slices.Clone(l)
	for i := range renamed {
		renamed[i].Grain = grain
	}
	return measure.Mix(renamed)
}

// Shrink returns what is left of a parcel that loses water, and what each lot loses.
func Shrink(l []api.Layer, left int) (api.Layer, []Amount, api.Errno) {
	if e := CheckParcel(l); e != api.OK {
		return api.Layer{}, nil, e
	}
	if left < 1 {
		return api.Layer{}, nil, api.ErrRange
	}
	mass := massOf(forwards(l))
	if mass < left {
		return api.Layer{}, nil, api.ErrEmpty
	}
	if !areOfOneGrain(forwards(l)) {
		return api.Layer{}, nil, api.ErrGrain
	}
	pooled, e := pool(l, l[0].Grain)
	if e != api.OK {
		return api.Layer{}, nil, e
	}
	lost, e := amountsOf(cut(forwards([]api.Layer{pooled}), left, mass))
	if e != api.OK {
		return api.Layer{}, nil, e
	}
	pooled.Mass = left
	return pooled, lost, api.OK
}
