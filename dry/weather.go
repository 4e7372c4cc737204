package dry

import (
	"cmp"
	"iter"
	"slices"

	"bushel/api"
)

// isTemperature reports whether an integer is a temperature in tenths of a degree.
func isTemperature(n int) bool { return isFrom(-600, 1000, n) }

// isHumidity reports whether an integer is a relative humidity in percent.
func isHumidity(n int) bool { return isFrom(0, 100, n) }

// checkHour returns the error of an hour of weather, or OK.
func checkHour(h api.Hour) api.Errno {
	if !isTemperature(h.Temperature) || !isHumidity(h.Humidity) {
		return api.ErrRange
	}
	return api.OK
}

// CheckHours returns the first error of hours of weather, or OK.
func CheckHours(l []api.Hour) api.Errno {
	if len(l) > api.MaxHours {
		return api.ErrMany
	}
	for _, h := range l {
		if e := checkHour(h); e != api.OK {
			return e
		}
	}
	return api.OK
}

// CheckClimate returns the first error of a climate, or OK.
func CheckClimate(c api.Climate) api.Errno {
	switch {
	case !isTemperature(c.Cold), !isTemperature(c.Warm), !isHumidity(c.Dry), !isHumidity(c.Damp):
		return api.ErrRange
	case c.Cold > c.Warm, c.Dry > c.Damp:
		return api.ErrOrder
	}
	return api.OK
}

// checkWeather returns the first error of hours and a climate, or OK.
func checkWeather(l []api.Hour, c api.Climate) api.Errno {
	if e := CheckHours(l); e != api.OK {
		return e
	}
	return CheckClimate(c)
}

// suits reports whether an hour suits a climate.
func suits(h api.Hour, c api.Climate) bool {
	return isFrom(c.Cold, c.Warm, h.Temperature) && isFrom(c.Dry, c.Damp, h.Humidity)
}

// suiting visits the numbers of the hours that suit a climate.
func suiting(l []api.Hour, c api.Climate) iter.Seq[int] {
	return func(yield func(int) bool) {
		for i, h := range l {
			if suits(h, c) && !yield(i) {
				return
			}
		}
	}
}

// Suits reports whether an hour suits a climate.
func Suits(h api.Hour, c api.Climate) (bool, api.Errno) {
	if e := checkHour(h); e != api.OK {
		return false, e
	}
	if e := CheckClimate(c); e != api.OK {
		return false, e
	}
	return suits(h, c), api.OK
}

// Fans returns the hours in which the fans run.
func Fans(l []api.Hour, c api.Climate, need int) ([]int, api.Errno) {
	if e := checkWeather(l, c); e != api.OK {
		return nil, e
	}
	if need < 0 {
		return nil, api.ErrRange
	}
	var hours []int
	for i := range suiting(l, c) {
		hours = append(hours, i)
	}
	if len(hours) < need {
		return nil, api.ErrNone
	}
	coldest := func(i, k int) int { return cmp.Compare(l[i].Temperature, l[k].Temperature) }
	fans := inOrder(hours, coldest)[:need]
	slices.Sort(fans)
	return fans, api.OK
}

// Window returns the first of a number of hours one after another that suit.
func Window(l []api.Hour, c api.Climate, length int) (int, api.Errno) {
	if e := checkWeather(l, c); e != api.OK {
		return 0, e
	}
	if length < 1 {
		return 0, api.ErrRange
	}
	first, run := none, 0
search:
	for i, h := range l {
		run++
		switch {
		case !suits(h, c):
			run = 0
		case run == length:
			first = i + 1 - length
			break search
		}
	}
	if first == none {
		return 0, api.ErrNone
	}
	return first, api.OK
}
