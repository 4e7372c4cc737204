package grade

import (
	"slices"

	"bushel/api"
	"bushel/exact"
	"bushel/measure"
	"bushel/numbers"
)

// mostReadings are a reading, its retest, and the appeal against both.
const mostReadings = 3

// Composite returns the spans of the sample that is mixed from samples with weights.
func Composite(samples [][]api.Span, weights []int) ([]api.Span, api.Errno) {
	if e := checkSamples(samples); e != api.OK {
		return nil, e
	}
	var composite []api.Span
	for f := range samples[0] {
		var spans []api.Span
		for _, s := range samples {
			spans = append(spans, s[f])
		}
		// The errors of the weights are those of Mean, which permits weights up to MaxMass, the same number as MaxNumber.
		mean, e := measure.Mean(spans, weights)
		if e != api.OK {
			return nil, e
		}
		composite = append(composite, mean)
	}
	return composite, api.OK
}

// checkSamples returns the first error of samples, or OK.
func checkSamples(samples [][]api.Span) api.Errno {
	if len(samples) == 0 {
		return api.ErrShape
	}
	if len(samples) > api.MaxPoints {
		return api.ErrMany
	}
	for _, s := range samples {
		if e := checkSample(s, len(samples[0])); e != api.OK {
			return e
		}
	}
	return api.OK
}

// checkSample returns the first error of a sample that is to have so many factors, or OK.
func checkSample(sample []api.Span, factors int) api.Errno {
	switch {
	case len(sample) == 0:
		return api.ErrShape
	case len(sample) > api.MaxFactors:
		return api.ErrMany
	case len(sample) != factors:
		return api.ErrShape
	}
	_, e := numbers.Each(sample, numbers.ReadSpan)
	return e
}

// readTolerance returns the tolerance of a factor, or the factor's first error.
func readTolerance(f api.Factor) (exact.Number, api.Errno) {
	if !measure.IsName(f.Name) {
		return exact.Number{}, api.ErrName
	}
	tolerance, e := numbers.Read(f.Tolerance)
	if e != api.OK {
		return exact.Number{}, e
	}
	if tolerance.Sign() < 0 {
		return exact.Number{}, api.ErrRange
	}
	if e := measure.CheckRule(f.Rounding); e != api.OK {
		return exact.Number{}, e
	}
	return tolerance, api.OK
}

// CheckFactor returns the first error of a factor, or OK.
func CheckFactor(f api.Factor) api.Errno {
	_, e := readTolerance(f)
	return e
}

// Reading returns the reading of a measured number, and the interval of the true value.
func Reading(f api.Factor, a api.Rat) (api.Rat, api.Span, api.Errno) {
	if e := CheckFactor(f); e != api.OK {
		return "", api.Span{}, e
	}
	reading, e := measure.Round(a, f.Rounding)
	if e != api.OK {
		return "", api.Span{}, e
	}
	low, e := measure.Sub(reading, f.Tolerance)
	if e != api.OK {
		return "", api.Span{}, e
	}
	high, e := measure.Add(reading, f.Tolerance)
	if e != api.OK {
		return "", api.Span{}, e
	}
	return reading, api.Span{Low: low, High: high}, api.OK
}

// Final returns the reading that counts: the first one, and behind an appeal the middle one of all three.
func Final(f api.Factor, readings []api.Rat) (api.Rat, api.Errno) {
	tolerance, e := readTolerance(f)
	if e != api.OK {
		return "", e
	}
	if len(readings) == 0 {
		return "", api.ErrShape
	}
	if len(readings) > mostReadings {
		return "", api.ErrMany
	}
	l, e := numbers.Each(readings, numbers.Read)
	if e != api.OK {
		return "", e
	}
	agree := len(l) == 1 || agrees(l[0], l[1], tolerance)
	switch {
	case !agree && len(l) < mostReadings:
		return "", api.ErrConflict
	case !agree:
		return numbers.Write(median(l[0], l[1], l[2]))
	case len(l) == mostReadings:
		return "", api.ErrState
	}
	return readings[0], api.OK
}

// agrees reports whether two readings differ by at most a tolerance.
func agrees(a, b, tolerance exact.Number) bool {
	difference := exact.Greater(a, b).Minus(exact.Lesser(a, b))
	return difference.Compare(tolerance) <= 0
}

// median returns the middle one of an odd number of values.
func median(values ...exact.Number) exact.Number {
	ordered := slices.SortedFunc(slices.Values(values), exact.Number.Compare)
	return ordered[len(ordered)/2]
}
