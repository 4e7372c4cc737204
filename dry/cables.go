package dry

import (
	"cmp"
	"slices"

	"bushel/api"
)

// The kinds of alarms, in the order of the alarms of a sensor at a time.
const (
	hot = iota
	rise
	spot
	kinds
)

// kindWords are the words of the kinds.
var kindWords = [...]string{hot: "hot", rise: "rise", spot: "spot"}

// CheckReadings returns the first error of the readings of cables, or OK.
func CheckReadings(l [][]int) api.Errno {
	if len(l) == 0 {
		return api.ErrShape
	}
	if len(l) > api.MaxHours {
		return api.ErrMany
	}
	for _, row := range l {
		if e := checkRow(row, len(l[0])); e != api.OK {
			return e
		}
	}
	return api.OK
}

// checkRow returns the first error of a row of readings that is to have so many, or OK.
func checkRow(row []int, sensors int) api.Errno {
	switch {
	case len(row) == 0:
		return api.ErrShape
	case len(row) > api.MaxPoints:
		return api.ErrMany
	case len(row) != sensors:
		return api.ErrShape
	}
	for _, temperature := range row {
		if !isTemperature(temperature) {
			return api.ErrRange
		}
	}
	return api.OK
}

// CheckWatch returns the first error of rules for alarms, or OK.
func CheckWatch(w api.Watch) api.Errno {
	const most = 2000
	if !isTemperature(w.Above) || !isFrom(1, most, w.Rise) || !isFrom(1, api.MaxHours, w.Within) || !isFrom(1, most, w.Over) {
		return api.ErrRange
	}
	return api.OK
}

// raised returns for each kind whether there is an alarm of a sensor at a time.
func raised(l [][]int, w api.Watch, time, sensor int) [kinds]bool {
	row := l[time]
	temperature := row[sensor]
	isRisen := func(before []int) bool { return temperature-before[sensor] >= w.Rise }
	return [kinds]bool{
		hot:  temperature > w.Above,
		rise: slices.ContainsFunc(l[max(0, time-w.Within):time], isRisen),
		spot: isSpot(row, sensor, w.Over),
	}
}

// isSpot reports whether a sensor has a neighbour, and a temperature that is over that of each one by so much.
func isSpot(row []int, sensor, over int) bool {
	for _, neighbour := range []int{sensor - 1, sensor + 1} {
		exists := isFrom(0, len(row)-1, neighbour)
		if exists && row[sensor]-row[neighbour] < over {
			return false
		}
	}
	return len(row) > 1
}

// Alarms returns the alarms of readings.
func Alarms(l [][]int, w api.Watch) ([]api.Alarm, api.Errno) {
	if e := CheckReadings(l); e != api.OK {
		return nil, e
	}
	if e := CheckWatch(w); e != api.OK {
		return nil, e
	}
	var alarms []api.Alarm
	for time, row := range l {
		for sensor := range row {
			for kind, isRaised := range raised(l, w, time, sensor) {
				if isRaised {
					alarms = append(alarms, api.Alarm{Time: time, Sensor: sensor, Kind: kindWords[kind]})
				}
			}
			if len(alarms) > api.MaxList {
				return nil, api.ErrMany
			}
		}
	}
	return alarms, api.OK
}

// Ranking returns the sensors in the order in which their layers are turned.
func Ranking(l [][]int) ([]int, api.Errno) {
	if e := CheckReadings(l); e != api.OK {
		return nil, e
	}
	last := l[len(l)-1]
	before := l[max(0, len(l)-2)]
	var sensors []int
	for sensor := range last {
		sensors = append(sensors, sensor)
	}
	hottest := func(a, b int) int { return cmp.Compare(last[b], last[a]) }
	mostRisen := func(a, b int) int { return cmp.Compare(last[b]-before[b], last[a]-before[a]) }
	return inOrder(sensors, hottest, mostRisen), api.OK
}
