package terminal

import (
	"slices"
	"strconv"
	"strings"

	"bushel/api"
)

// checkSum returns the check sum of a text.
func checkSum(text string) int {
	sum := 7
	for i := range len(text) {
		sum = (131*sum + int(text[i])) % 1000003
	}
	return sum
}

// textOf returns the text of an event.
func textOf(event api.Event) string {
	words := []string{strconv.Itoa(event.Number), strconv.Itoa(event.Day), event.Kind}
	text := phrase(slices.Concat(words, event.Names, texts(event.Masses, strconv.Itoa))...)
	return phrase(text, strconv.Itoa(checkSum(text)))
}

// Encode returns the text of an event.
func Encode(e api.Event) (string, api.Errno) {
	if err := CheckEvent(e); err != api.OK {
		return "", err
	}
	return textOf(e), api.OK
}

// readParts returns an event of a kind with its names and masses as words, and false if they are not so many as it has, or a mass is no integer.
func readParts(name string, words []string) (api.Event, bool) {
	k := new(office).kinds()[name]
	if len(words) != k.names+k.masses {
		return api.Event{}, false
	}
	masses, areMasses := readIntegers(words[k.names:])
	return api.Event{Kind: name, Names: slices.Clone(words[:k.names]), Masses: masses}, areMasses
}

// readEvent returns the event with these words, which are at least three, and false if there is none.
func readEvent(words []string) (api.Event, bool) {
	event, hasParts := readParts(words[2], words[3:])
	front, areIntegers := readIntegers(words[:2])
	if !hasParts || !areIntegers {
		return api.Event{}, false
	}
	event.Number, event.Day = front[0], front[1]
	return event, CheckEvent(event) == api.OK
}

// Decode returns the event with a text.
func Decode(s string) (api.Event, api.Errno) {
	if len(s) > api.MaxText {
		return api.Event{}, api.ErrLong
	}
	words, areWords := wordsOf(s)
	last := len(words) - 1
	if !areWords || last < 3 {
		return api.Event{}, api.ErrSyntax
	}
	sum, isSum := readInteger(words[last])
	if !isSum {
		return api.Event{}, api.ErrSyntax
	}
	if sum != checkSum(phrase(words[:last]...)) {
		return api.Event{}, api.ErrSum
	}
	event, isEvent := readEvent(words[:last])
	if !isEvent {
		return api.Event{}, api.ErrSyntax
	}
	return event, api.OK
}

// Append returns a log with an event more.
func Append(log string, e api.Event) (string, api.Errno) {
	l, _, err := Recover(log)
	if err != api.OK {
		return "", err
	}
	text, err := Encode(e)
	if err != api.OK {
		return "", err
	}
	if len(l) == api.MaxEvents {
		return "", api.ErrMany
	}
	longer := log + lines(text)
	if len(longer) > api.MaxLog {
		return "", api.ErrLong
	}
	return longer, api.OK
}

// Recover returns the events of the longest beginning of a text that is a log, and its length.
func Recover(log string) ([]api.Event, int, api.Errno) {
	if len(log) > api.MaxLog {
		return nil, 0, api.ErrLong
	}
	var events []api.Event
	length := 0
	for length < len(log) {
		line, _, isWhole := strings.Cut(log[length:], "\n")
		if !isWhole {
			return events, length, api.ErrTorn
		}
		event, e := Decode(line)
		if e != api.OK {
			return events, length, e
		}
		if len(events) == api.MaxEvents {
			return events, length, api.ErrMany
		}
		events = append(events, event)
		length += len(line) + 1
	}
	return events, length, api.OK
}
