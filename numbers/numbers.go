// Package numbers stands between the layers above measure and package exact: it reads the numbers of arguments, and writes those of results.
// In between a layer computes with numbers of any size, since the limit of digits bounds arguments and results alone.
package numbers

import (
	"strings"

	"bushel/api"
	"bushel/exact"
	"bushel/measure"
)

// Read returns a number, or the error of measure.Check.
func Read(a api.Rat) (exact.Number, api.Errno) {
	if e := measure.Check(a); e != api.OK {
		return exact.Number{}, e
	}
	n, _ := exact.Read(string(a))
	return n, api.OK
}

// Write returns a number as a result.
func Write(n exact.Number) (api.Rat, api.Errno) {
	text, fits := n.Text(api.MaxDigits)
	if !fits {
		return "", api.ErrLarge
	}
	return api.Rat(text), api.OK
}

// Greatest returns the greatest number that is not too long for a result.
func Greatest() exact.Number {
	n, _ := exact.Read(strings.Repeat("9", api.MaxDigits))
	return n
}

// Interval is a span that has been read.
type Interval struct {
	Low  exact.Number
	High exact.Number
}

// ReadSpan returns a span, or the error of measure.CheckSpan.
func ReadSpan(s api.Span) (Interval, api.Errno) {
	if e := measure.CheckSpan(s); e != api.OK {
		return Interval{}, e
	}
	low, _ := exact.Read(string(s.Low))
	high, _ := exact.Read(string(s.High))
	return Interval{low, high}, api.OK
}

// WriteSpan returns an interval as a result.
func WriteSpan(i Interval) (api.Span, api.Errno) {
	ends, e := Each([]exact.Number{i.Low, i.High}, Write)
	if e != api.OK {
		return api.Span{}, e
	}
	return api.Span{Low: ends[0], High: ends[1]}, api.OK
}

// Each converts the elements of a list, or returns the error of the first one that has one.
func Each[T, U any](l []T, convert func(T) (U, api.Errno)) ([]U, api.Errno) {
	result := make([]U, 0, len(l))
	for _, x := range l {
		y, e := convert(x)
		if e != api.OK {
			return nil, e
		}
		result = append(result, y)
	}
	return result, api.OK
}
