package terminal

import (
	"slices"
	"strconv"
	"strings"

	"bushel/api"
	"bushel/bin"
)

// Session is a session at the console.
type Session struct {
	events []api.Event
	office office
	day    int
}

// New returns a session.
func New() *Session { return &Session{} }

// Open returns a session with the events of a log.
func Open(log string) (*Session, api.Errno) {
	events, _, e := Recover(log)
	if e != api.OK && e != api.ErrTorn {
		return nil, e
	}
	o, _, e := replay(events)
	if e != api.OK {
		return nil, e
	}
	return &Session{events: events, office: *o, day: o.Day}, api.OK
}

// command is what a session does for a first word: the least and the greatest number of words behind it, and what returns the answer to them.
type command struct {
	least  int
	most   int
	answer func(words []string) (string, api.Errno)
}

// commands returns the commands other than the kinds of events. A recall may have any number of words, and no line has more than MaxText.
func (s *Session) commands() map[string]command {
	return map[string]command{
		"day":     {1, 1, s.setDay},
		"stock":   {1, 1, s.stock},
		"trace":   {1, 1, s.trace},
		"reach":   {1, 1, s.reach},
		"recall":  {1, api.MaxText, s.recall},
		"journey": {1, 1, s.journey},
		"balance": {0, 0, s.balance},
		"report":  {0, 0, s.report},
	}
}

// Do runs a line and returns its answer.
func (s *Session) Do(line string) (string, api.Errno) {
	switch {
	case s == nil:
		return "", api.ErrState
	case len(line) > api.MaxText:
		return "", api.ErrLong
	}
	words, areWords := wordsOf(line)
	if !areWords || strings.Contains(line, "\n") {
		return "", api.ErrSyntax
	}
	first, others := words[0], words[1:]
	if _, isKind := s.office.kinds()[first]; isKind {
		return s.record(first, others)
	}
	c, exists := s.commands()[first]
	switch {
	case !exists:
		return "", api.ErrKind
	case len(others) < c.least || len(others) > c.most:
		return "", api.ErrSyntax
	}
	return c.answer(others)
}

// record adds an event of a kind.
func (s *Session) record(name string, words []string) (string, api.Errno) {
	event, hasParts := readParts(name, words)
	switch {
	case !hasParts:
		return "", api.ErrSyntax
	case len(s.events) == api.MaxEvents:
		return "", api.ErrMany
	}
	event.Number, event.Day = len(s.events)+1, s.day
	next := s.office.doubled()
	if e := next.enter(event); e != api.OK {
		return "", e
	}
	s.events, s.office = append(s.events, event), next
	return phrase("event", strconv.Itoa(event.Number)), api.OK
}

// setDay sets the day of the events to come.
func (s *Session) setDay(words []string) (string, api.Errno) {
	day, isInteger := readInteger(words[0])
	switch {
	case !isInteger:
		return "", api.ErrSyntax
	case day > api.MaxDay || day < s.day:
		return "", api.ErrDay
	}
	s.day = day
	return phrase("day", strconv.Itoa(day)), api.OK
}

// answer returns the answer with some elements, if there was no error.
func answer(e api.Errno, between string, elements ...string) (string, api.Errno) {
	switch {
	case e != api.OK:
		return "", e
	case len(elements) == 0:
		return "none", api.OK
	}
	return strings.Join(elements, between), api.OK
}

// stock answers with the stock of a grain.
func (s *Session) stock(words []string) (string, api.Errno) {
	mass, e := Stock(s.events, words[0])
	return answer(e, "", strconv.Itoa(mass))
}

// trace answers with the lots in a shipment.
func (s *Session) trace(words []string) (string, api.Errno) {
	amounts, e := Trace(s.events, words[0])
	return answer(e, ", ", texts(amounts, func(x bin.Amount) string { return phrase(x.Lot, string(x.Mass)) })...)
}

// reach answers with the shipments that a lot is in.
func (s *Session) reach(words []string) (string, api.Errno) {
	names, e := Reach(s.events, words[0])
	return answer(e, " ", names...)
}

// recall answers with the shipments that some lots are in.
func (s *Session) recall(words []string) (string, api.Errno) {
	hits, e := Recall(s.events, words)
	return answer(e, ", ", texts(hits, func(x Hit) string { return phrase(x.Shipment, string(x.Mass)) })...)
}

// journey answers with the events of a lot.
func (s *Session) journey(words []string) (string, api.Errno) {
	events, e := Journey(s.events, words[0])
	return answer(e, " ", texts(events, strconv.Itoa)...)
}

// balance answers with where the kilograms of each lot are.
func (s *Session) balance([]string) (string, api.Errno) {
	l, e := Balance(s.events)
	return answer(e, "; ", texts(l, func(x Line) string {
		return phrase(x.Lot, string(x.Arrived), string(x.Waiting), string(x.Stored), string(x.Shipped), string(x.Lost))
	})...)
}

// report answers with the report.
func (s *Session) report([]string) (string, api.Errno) {
	text, e := Report(s.events)
	return answer(e, "", strings.TrimSuffix(text, "\n"))
}

// Events returns the events.
func (s *Session) Events() []api.Event {
	if s == nil {
		return nil
	}
	events := double(s.events)
	for i, event := range events {
		events[i].Names, events[i].Masses = slices.Clone(event.Names), slices.Clone(event.Masses)
	}
	return events
}

// Log returns the log.
func (s *Session) Log() string {
	if s == nil {
		return ""
	}
	return lines(texts(s.events, textOf)...)
}
