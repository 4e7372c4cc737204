package dry

import (
	"bushel/api"
	"bushel/exact"
	"bushel/numbers"
)

// band is a band of moistures that has been read.
type band struct {
	moistures numbers.Interval
	heat      exact.Number
}

// join returns the moistures of bands that follow each other as one interval.
func join(bands ...band) numbers.Interval {
	return numbers.Interval{Low: bands[0].moistures.Low, High: bands[len(bands)-1].moistures.High}
}

// readBand returns a band behind those before it, or its first error.
func readBand(given api.Band, before []band) (band, api.Errno) {
	l, e := numbers.Each([]api.Rat{given.Low, given.High, given.Heat}, numbers.Read)
	if e != api.OK {
		return band{}, e
	}
	low, high, heat := l[0], l[1], l[2]
	if low.Sign() < 0 || high.Compare(low) <= 0 || !isMoisture(high) || heat.Sign() < 0 {
		return band{}, api.ErrRange
	}
	if len(before) > 0 && low.Compare(join(before...).High) != 0 {
		return band{}, api.ErrOrder
	}
	return band{numbers.Interval{Low: low, High: high}, heat}, api.OK
}

// readBands returns bands, or their first error.
func readBands(l []api.Band) ([]band, api.Errno) { return readChain(l, readBand) }

// heatOf returns the heat of drying a batch to a moisture while its moisture falls through a band.
func (b band) heatOf(grain batch, to exact.Number) exact.Number {
	high, low := exact.Lesser(grain.moisture, b.moistures.High), exact.Greater(to, b.moistures.Low)
	if high.Compare(low) <= 0 {
		return exact.Number{}
	}
	return grain.at(high).Minus(grain.at(low)).Times(b.heat)
}

// CheckBands returns the first error of bands of moisture, or OK.
func CheckBands(l []api.Band) api.Errno {
	_, e := readBands(l)
	return e
}

// Energy returns the heat of drying.
func Energy(l []api.Band, mass int, from, to api.Rat) (api.Rat, api.Errno) {
	bands, e := readBands(l)
	if e != api.OK {
		return "", e
	}
	grain, target, e := readDrying(mass, from, to)
	if e != api.OK {
		return "", e
	}
	if all := join(bands...); !contains(all, grain.moisture) || !contains(all, target) {
		return "", api.ErrRange
	}
	heat := exact.Number{}
	for _, b := range bands {
		heat = heat.Plus(b.heatOf(grain, target))
	}
	return numbers.Write(heat)
}
