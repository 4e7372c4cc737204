package terminal_test

import (
	"fmt"
	"math/rand"
	"reflect"
	"slices"
	"strings"
	"testing"

	"bushel/api"
	"bushel/terminal"
)

// region is the memory of a list, from its beginning to the end of its capacity.
type region struct {
	from, to uintptr
	what     string
}

// regionsOf returns the memory of all lists in a value.
func regionsOf(v reflect.Value, what string) []region {
	var l []region
	switch v.Kind() {
	case reflect.Slice:
		if v.Cap() > 0 {
			l = append(l, region{v.Pointer(), v.Pointer() + uintptr(v.Cap())*v.Type().Elem().Size(), what})
		}
		for i := range v.Len() {
			l = append(l, regionsOf(v.Index(i), fmt.Sprint(what, "[", i, "]"))...)
		}
	case reflect.Struct:
		for i := range v.NumField() {
			l = append(l, regionsOf(v.Field(i), what+"."+v.Type().Field(i).Name)...)
		}
	}
	return l
}

// expectApart reports lists in some values that share memory.
func expectApart(t *testing.T, values ...any) {
	t.Helper()
	var l []region
	for i, x := range values {
		l = append(l, regionsOf(reflect.ValueOf(x), fmt.Sprint("value ", i))...)
	}
	slices.SortFunc(l, func(a, b region) int {
		if a.from < b.from {
			return -1
		}
		return 1
	})
	for i := 1; i < len(l); i++ {
		if l[i].from < l[i-1].to {
			t.Errorf("%s and %s share memory", l[i-1].what, l[i].what)
		}
	}
}

func TestMemory(t *testing.T) {
	r := rand.New(rand.NewSource(31))
	for range 20 {
		l := randomEvents(r, 60)
		before := textsOf(l)
		values := []any{l}
		for _, ask := range questions() {
			for _, name := range []string{"red", "oslo", "wheat"} {
				first, _ := ask(l, name)
				again, _ := ask(l, name)
				expect(t, before, again, first)
				values = append(values, first, again)
			}
		}
		log := logOf(t, l)
		s := ok[*terminal.Session](t, "Open")(terminal.Open(log))
		recovered, _, _ := terminal.Recover(log)
		expectApart(t, append(values, s.Events(), s.Events(), recovered)...)
		expect(t, "the arguments", textsOf(l), before)
	}
}

// TestEventsOfASessionAreCopies checks that a session is not changed with its events.
func TestEventsOfASessionAreCopies(t *testing.T) {
	s := exampleSession(t)
	log := s.Log()
	l := s.Events()
	for i := range l {
		l[i].Names[0] = "x"
		for k := range l[i].Masses {
			l[i].Masses[k]++
		}
		l[i].Number, l[i].Kind = 0, ""
	}
	expect(t, "the events", s.Events(), example(10))
	expect(t, "the log", s.Log(), log)
	converse(t, s, exchange{"stock wheat", "51", api.OK})
}

// TestSessionsAreApart checks that sessions with the same events go on by themselves.
func TestSessionsAreApart(t *testing.T) {
	a := exampleSession(t)
	b := ok[*terminal.Session](t, "Open")(terminal.Open(a.Log()))
	converse(t, a, exchange{"load oslo west 1 1", "event 11", api.OK}, exchange{"issue ann wheat 1", "", api.ErrBalance})
	converse(t, b, exchange{"cancel ann wheat 50", "event 11", api.OK}, exchange{"load oslo west 1 2", "event 12", api.OK}, exchange{"stock wheat", "49", api.OK})
	converse(t, a, exchange{"trace oslo", "blue 6, red 4", api.OK}, exchange{"stock wheat", "50", api.OK}, exchange{"close oslo", "event 12", api.OK})
	converse(t, b, exchange{"load oslo west 1 1", "event 13", api.OK}, exchange{"report", "day 3\nbin east 14\nbin west 0 24\nlot blue wheat 20 0\nlot red wheat 40 10\nship oslo wheat 12 open", api.OK})
}

// disturbed returns events with a few changes of any form.
func disturbed(r *rand.Rand, l []api.Event) []api.Event {
	l = copyOf(l)
	numbers := []int{-1 << 63, -1, 0, 1, 2, 9, 1000, 1001, 100001, 999999999, 1000000000, 1<<63 - 1}
	words := []string{"", "red", "east", "oslo", "ann", "wheat", "a b", "\xff", "bin", "dry", "load", "mass", strings.Repeat("x", 25)}
	for range 1 + r.Intn(3) {
		n, word, i := numbers[r.Intn(len(numbers))], words[r.Intn(len(words))], r.Intn(len(l))
		e := &l[i]
		switch r.Intn(9) {
		case 0:
			e.Number = n
		case 1:
			e.Day = n
		case 2:
			e.Kind = word
		case 3:
			e.Names = append(e.Names, word)
		case 4:
			e.Masses = append(e.Masses, n)
		case 5:
			e.Names = e.Names[:r.Intn(len(e.Names)+1)]
		case 6, 7:
			if len(e.Masses) > 0 {
				e.Masses[r.Intn(len(e.Masses))] = n
			}
		case 8:
			if len(e.Names) > 0 {
				e.Names[r.Intn(len(e.Names))] = word
			}
		}
	}
	return l
}

// TestAllArguments checks all functions with arguments of any form.
func TestAllArguments(t *testing.T) {
	r := rand.New(rand.NewSource(32))
	codes := map[api.Errno]int{}
	for range 400 {
		l := disturbed(r, example(10))
		_, place, want := terminal.Replay(l)
		codes[want]++
		if want != api.OK {
			expect(t, textsOf(l), terminal.Accepts(l[:place-1], l[place-1]), want)
		}
		for name, ask := range questions() {
			got, e := ask(l, "red", "oslo")
			if want != api.OK {
				expect(t, name+": "+textsOf(l), e, want)
			}
			if e != api.OK {
				expectNothing(t, name+": "+textsOf(l), got)
			}
		}
		for _, e := range l {
			text, errno := terminal.Encode(e)
			expect(t, "Encode", errno, terminal.CheckEvent(e))
			if errno == api.OK {
				expect(t, text, ok[api.Event](t, text)(terminal.Decode(text)), e)
			}
		}
	}
	for _, e := range []api.Errno{api.OK, api.ErrShape, api.ErrRange, api.ErrName, api.ErrTwice, api.ErrUnknown, api.ErrOrder, api.ErrKind, api.ErrDay, api.ErrEmpty} {
		if codes[e] == 0 {
			t.Errorf("no events had the error %d: %v", e, codes)
		}
	}
}

// TestAllTexts checks texts and lines of any form.
func TestAllTexts(t *testing.T) {
	r := rand.New(rand.NewSource(33))
	pieces := append(exampleTexts(), "1", " ", "\n", "\x00", "\xff", "day", "recall", "balance", "report", "journey red", "-", "999999999", "0", "1 3 close oslo 429037\n", "trace oslo")
	s := exampleSession(t)
	for range 3000 {
		text := ""
		for range 1 + r.Intn(4) {
			text += pieces[r.Intn(len(pieces))] + []string{"", " ", "\n"}[r.Intn(3)]
		}
		log, count := s.Log(), len(s.Events())
		answer, e := s.Do(text)
		if e != api.OK {
			expect(t, fmt.Sprintf("%q", text), []any{answer, s.Log()}, []any{"", log})
		} else if answer == "" {
			t.Errorf("%q: no answer", text)
		}
		if n := len(s.Events()); n > count {
			expect(t, fmt.Sprintf("%q", text), answer, fmt.Sprint("event ", n))
		}
		events, length, e := terminal.Recover(text)
		expect(t, fmt.Sprintf("Recover of %q", text), logOf(t, events), text[:length])
		expect(t, fmt.Sprintf("Recover of %q", text), e == api.OK, length == len(text))
		event, e := terminal.Decode(text)
		if e == api.OK {
			expect(t, "Encode", ok[string](t, text)(terminal.Encode(event)), text)
		} else {
			expect(t, fmt.Sprintf("Decode of %q", text), event, api.Event{})
		}
		terminal.Open(text)
	}
}

// TestNoArguments checks the zero values of all arguments.
func TestNoArguments(t *testing.T) {
	want := map[string]api.Errno{"Stock": api.ErrName, "Trace": api.ErrName, "Reach": api.ErrName, "Recall": api.ErrName, "Journey": api.ErrName}
	for name, ask := range questions() {
		_, e := ask(nil, "")
		expect(t, name, e, want[name])
	}
	_, e := terminal.Recall(nil, nil)
	expect(t, "Recall of no lots", e, api.ErrShape)
	expect(t, "CheckEvent", terminal.CheckEvent(api.Event{}), api.ErrRange)
	expect(t, "Accepts", terminal.Accepts(nil, api.Event{}), api.ErrRange)
	_, e = terminal.Encode(api.Event{})
	expect(t, "Encode", e, api.ErrRange)
	_, e = terminal.Append("", api.Event{})
	expect(t, "Append", e, api.ErrRange)
}
