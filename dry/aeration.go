package dry

import (
	"iter"
	"slices"

	"bushel/api"
	"bushel/exact"
	"bushel/numbers"
)

// aeration is grain that is aerated in hours of weather.
type aeration struct {
	hours   []api.Hour
	climate api.Climate
	speed   numbers.Interval
	depth   exact.Number
}

// readAeration returns an aeration, or its first error.
func readAeration(l []api.Hour, c api.Climate, speed api.Span, depth api.Rat) (aeration, api.Errno) {
	if e := checkWeather(l, c); e != api.OK {
		return aeration{}, e
	}
	rising, e := numbers.ReadSpan(speed)
	if e != api.OK {
		return aeration{}, e
	}
	if rising.Low.Sign() < 0 {
		return aeration{}, api.ErrRange
	}
	top, e := numbers.Read(depth)
	if e != api.OK {
		return aeration{}, e
	}
	if top.Sign() <= 0 {
		return aeration{}, api.ErrRange
	}
	return aeration{l, c, rising, top}, api.OK
}

// risen returns the places at which that may be which rose for so many hours from the bottom on.
func (a aeration) risen(hours int) numbers.Interval {
	n := exact.Whole(hours)
	return numbers.Interval{Low: exact.Lesser(a.speed.Low.Times(n), a.depth), High: exact.Lesser(a.speed.High.Times(n), a.depth)}
}

// isTop reports whether a place is at the depth.
func (a aeration) isTop(place exact.Number) bool { return place.Compare(a.depth) == 0 }

// fronts visits the hours with the places of the front behind them.
func (a aeration) fronts() iter.Seq2[int, numbers.Interval] {
	return func(yield func(int, numbers.Interval) bool) {
		hours := 0
		for i, h := range a.hours {
			if suits(h, a.climate) {
				hours++
			}
			if !yield(i, a.risen(hours)) {
				return
			}
		}
	}
}

// stretches visits the stretches of hours that all suit, or all do not, from the last one to the first one, with their lengths.
func (a aeration) stretches() iter.Seq2[bool, int] {
	return func(yield func(bool, int) bool) {
		length := 0
		for i, h := range slices.Backward(a.hours) {
			length++
			isGood := suits(h, a.climate)
			if i > 0 && suits(a.hours[i-1], a.climate) == isGood {
				continue
			}
			if !yield(isGood, length) {
				return
			}
			length = 0
		}
	}
}

// zone is a zone before it is written.
type zone struct {
	kind   string
	bottom numbers.Interval
	top    numbers.Interval
}

// zones returns the zones behind all hours, from the bottom to the top.
func (a aeration) zones() []zone {
	var zones []zone
	below := 0
	for isGood, length := range a.stretches() {
		kind := "bad"
		if isGood {
			kind = "good"
		}
		zones = append(zones, zone{kind, a.risen(below), a.risen(below + length)})
		below += length
	}
	zones = append(zones, zone{"old", a.risen(below), numbers.Interval{Low: a.depth, High: a.depth}})
	return slices.DeleteFunc(zones, func(z zone) bool { return a.isTop(z.bottom.Low) })
}

// writeZone returns a zone as a result.
func writeZone(z zone) (api.Zone, api.Errno) {
	l, e := numbers.Each([]numbers.Interval{z.bottom, z.top}, numbers.WriteSpan)
	if e != api.OK {
		return api.Zone{}, e
	}
	return api.Zone{Kind: z.kind, Bottom: l[0], Top: l[1]}, api.OK
}

// Front returns the places of an aeration front behind each hour.
func Front(l []api.Hour, c api.Climate, speed api.Span, depth api.Rat) ([]api.Span, api.Errno) {
	a, e := readAeration(l, c, speed, depth)
	if e != api.OK {
		return nil, e
	}
	var places []numbers.Interval
	for _, place := range a.fronts() {
		places = append(places, place)
	}
	return numbers.Each(places, numbers.WriteSpan)
}

// Through returns the hours behind which a front may be, and surely is, through the grain.
func Through(l []api.Hour, c api.Climate, speed api.Span, depth api.Rat) (int, int, api.Errno) {
	a, e := readAeration(l, c, speed, depth)
	if e != api.OK {
		return 0, 0, e
	}
	may, surely := none, none
	for i, place := range a.fronts() {
		if may == none && a.isTop(place.High) {
			may = i
		}
		if surely == none && a.isTop(place.Low) {
			surely = i
		}
	}
	return may, surely, api.OK
}

// Zones returns the zones of the grain behind all hours, from the bottom to the top.
func Zones(l []api.Hour, c api.Climate, speed api.Span, depth api.Rat) ([]api.Zone, api.Errno) {
	a, e := readAeration(l, c, speed, depth)
	if e != api.OK {
		return nil, e
	}
	return numbers.Each(a.zones(), writeZone)
}
