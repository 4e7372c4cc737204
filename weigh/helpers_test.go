package weigh_test

import (
	"fmt"
	"math"
	"math/rand"
	"reflect"
	"slices"
	"strings"
	"testing"

	"bushel/api"
	"bushel/weigh"
)

// expect reports a result that is not the expected one.
func expect(t *testing.T, what string, got, want any) {
	t.Helper()
	if !reflect.DeepEqual(got, want) {
		t.Errorf("%.300s: got %.300s, want %.300s", what, fmt.Sprint(got), fmt.Sprint(want))
	}
}

// expectList reports a list that is not the expected one; nil and empty lists are equal.
func expectList[T any](t *testing.T, what string, got, want []T) {
	t.Helper()
	if len(got) > 0 || len(want) > 0 {
		expect(t, what, got, want)
	}
}

// rng returns a range.
func rng(low, high int) api.Range { return api.Range{Low: low, High: high} }

// ticket returns a ticket.
func ticket(id string, from, to, low, high int) api.Ticket {
	return api.Ticket{Id: id, From: from, To: to, Mass: rng(low, high)}
}

// example is the book of the document's examples.
func example() api.Book {
	return api.Book{
		Stock:   []api.Range{rng(0, 0), rng(900, 950)},
		Tickets: []api.Ticket{ticket("t1", -1, 0, 500, 510), ticket("t2", -1, 0, 480, 500), ticket("t3", 0, 1, 940, 1020), ticket("t4", 1, -1, 50, 100)},
	}
}

// contradiction is the book of the examples whose last ticket makes it contradict itself.
func contradiction() api.Book {
	b := example()
	b.Tickets[3].Mass = rng(120, 130)
	return b
}

// clone returns a copy of a book that shares no memory with it.
func clone(b api.Book) api.Book {
	return api.Book{Stock: slices.Clone(b.Stock), Tickets: slices.Clone(b.Tickets)}
}

// badRange is a range with its error.
type badRange struct {
	r api.Range
	e api.Errno
}

// badRanges are ranges that are none.
func badRanges() []badRange {
	const most = api.MaxMass
	return []badRange{
		{rng(1, 0), api.ErrOrder}, {rng(-1, -2), api.ErrOrder}, {rng(most, -most), api.ErrOrder}, {rng(most, most-1), api.ErrOrder},
		{rng(0, most+1), api.ErrRange}, {rng(-most-1, 0), api.ErrRange}, {rng(most+1, 0), api.ErrRange}, {rng(0, -most-1), api.ErrRange},
		{rng(most+1, most+1), api.ErrRange}, {rng(-most-1, -most-1), api.ErrRange}, {rng(most+2, most+1), api.ErrRange},
		{rng(math.MinInt, math.MaxInt), api.ErrRange}, {rng(math.MinInt, 0), api.ErrRange}, {rng(0, math.MinInt), api.ErrRange},
		{rng(math.MinInt, math.MinInt), api.ErrRange}, {rng(math.MaxInt, math.MinInt), api.ErrRange}, {rng(5, math.MaxInt), api.ErrRange},
	}
}

// badMasses are ranges that are not masses.
func badMasses() []badRange {
	return append(badRanges(),
		badRange{rng(-1, 5), api.ErrRange}, badRange{rng(-1, -1), api.ErrRange}, badRange{rng(-api.MaxMass, api.MaxMass), api.ErrRange},
		badRange{rng(-5, -6), api.ErrOrder})
}

// badBook is a book with its error.
type badBook struct {
	what string
	b    api.Book
	e    api.Errno
}

// badBooks are books with an error, in the order of the errors: each one has errors that come later, too.
func badBooks() []badBook {
	many := slices.Repeat([]api.Range{rng(2, 1)}, api.MaxPlaces+1)
	worst := api.Ticket{Id: "?", From: 9, To: 9, Mass: rng(2, 1)}
	tooMany := slices.Repeat([]api.Ticket{worst}, api.MaxTickets+1)
	two := []api.Range{rng(0, 0), rng(0, 0)}
	books := []badBook{
		{"too many places", api.Book{Stock: many, Tickets: tooMany}, api.ErrMany},
		{"a bad stock before too many tickets", api.Book{Stock: []api.Range{rng(0, 0), rng(2, 1)}, Tickets: tooMany}, api.ErrOrder},
		{"too many tickets", api.Book{Stock: two, Tickets: tooMany}, api.ErrMany},
	}
	for _, bad := range badRanges() {
		b := api.Book{Stock: []api.Range{rng(0, 0), bad.r, rng(api.MaxMass+1, 0), rng(2, 1)}, Tickets: []api.Ticket{worst}}
		books = append(books, badBook{fmt.Sprint("the stock ", bad.r), b, bad.e})
	}
	for _, row := range []struct {
		t api.Ticket
		e api.Errno
	}{
		{worst, api.ErrName}, {api.Ticket{From: 0, To: 1}, api.ErrName}, {ticket("a b", 0, 1, 0, 0), api.ErrName}, {ticket("ä", 0, 1, 0, 0), api.ErrName},
		{ticket(strings.Repeat("x", api.MaxName+1), 0, 1, 0, 0), api.ErrName},
		{ticket("first", 2, 2, 2, 1), api.ErrTwice}, {ticket("second", 0, 1, 0, 0), api.ErrTwice},
		{ticket("x", 2, 2, 2, 1), api.ErrUnknown}, {ticket("x", 2, 1, 0, 0), api.ErrUnknown}, {ticket("x", 0, 2, 0, 0), api.ErrUnknown},
		{ticket("x", -2, 0, 2, 1), api.ErrUnknown}, {ticket("x", 0, -2, 0, 0), api.ErrUnknown}, {ticket("x", math.MinInt, math.MinInt, 0, 0), api.ErrUnknown},
		{ticket("x", 0, math.MaxInt, 0, 0), api.ErrUnknown},
		{ticket("x", 0, 0, 2, 1), api.ErrForm}, {ticket("x", -1, -1, -1, 1), api.ErrForm}, {ticket("x", 1, 1, 0, 0), api.ErrForm},
	} {
		b := api.Book{Stock: two, Tickets: []api.Ticket{ticket("first", 0, 1, 0, 1), ticket("second", -1, 1, 5, 5), row.t, worst}}
		books = append(books, badBook{fmt.Sprint("the ticket ", row.t), b, row.e})
	}
	for _, bad := range badMasses() {
		t := api.Ticket{Id: "x", From: 1, To: -1, Mass: bad.r}
		b := api.Book{Stock: two, Tickets: []api.Ticket{ticket("first", 0, 1, 0, 1), t, worst}}
		books = append(books, badBook{fmt.Sprint("the mass ", bad.r), b, bad.e})
	}
	return books
}

// badNumbers are lists that are no lists of numbers from 0 to 1, with their errors.
func badNumbers() map[string]badList {
	return map[string]badList{
		"too great":                 {[]int{0, 2}, api.ErrUnknown},
		"negative":                  {[]int{-1}, api.ErrUnknown},
		"the least and greatest":    {[]int{math.MinInt, math.MaxInt}, api.ErrUnknown},
		"twice":                     {[]int{1, 1}, api.ErrTwice},
		"twice, not side by side":   {[]int{0, 1, 0}, api.ErrTwice},
		"twice, then unknown":       {[]int{0, 0, 2}, api.ErrUnknown},
		"twice the same unknown":    {[]int{5, 5}, api.ErrUnknown},
		"long":                      {make([]int, 100000), api.ErrTwice},
		"long, unknown at its ends": {append(make([]int, 100000), -1), api.ErrUnknown},
	}
}

// badList is a list of numbers with its error.
type badList struct {
	l []int
	e api.Errno
}

// changes returns the change of the stock of each place.
func changes(b api.Book, masses []int) []int {
	l := make([]int, len(b.Stock))
	for i, t := range b.Tickets {
		if t.From >= 0 {
			l[t.From] -= masses[i]
		}
		if t.To >= 0 {
			l[t.To] += masses[i]
		}
	}
	return l
}

// isAssignment reports whether masses are an assignment, by its definition.
func isAssignment(b api.Book, masses []int) bool {
	for i, t := range b.Tickets {
		if masses[i] < t.Mass.Low || masses[i] > t.Mass.High {
			return false
		}
	}
	for place, change := range changes(b, masses) {
		if change < b.Stock[place].Low || change > b.Stock[place].High {
			return false
		}
	}
	return true
}

// everyMasses returns all lists of masses in the ranges of the tickets.
func everyMasses(b api.Book) [][]int {
	lists := [][]int{nil}
	for _, t := range b.Tickets {
		var longer [][]int
		for _, l := range lists {
			for mass := t.Mass.Low; mass <= t.Mass.High; mass++ {
				longer = append(longer, append(slices.Clone(l), mass))
			}
		}
		lists = longer
	}
	return lists
}

// assignments returns all assignments of a book.
func assignments(b api.Book) [][]int {
	var l [][]int
	for _, masses := range everyMasses(b) {
		if isAssignment(b, masses) {
			l = append(l, masses)
		}
	}
	return l
}

// hull returns the least range that contains what a function makes of lists.
func hull(lists [][]int, of func([]int) int) api.Range {
	result := rng(math.MaxInt, math.MinInt)
	for _, l := range lists {
		result = rng(min(result.Low, of(l)), max(result.High, of(l)))
	}
	return result
}

// shows reports whether places show that a book is not consistent, by its definition.
func shows(b api.Book, places []int) bool {
	lows, highs := 0, 0
	for _, p := range places {
		lows, highs = lows+b.Stock[p].Low, highs+b.Stock[p].High
	}
	least, greatest := 0, 0
	for _, t := range b.Tickets {
		comes, leaves := slices.Contains(places, t.To), slices.Contains(places, t.From)
		if comes && !leaves {
			least, greatest = least+t.Mass.Low, greatest+t.Mass.High
		}
		if leaves && !comes {
			least, greatest = least-t.Mass.High, greatest-t.Mass.Low
		}
	}
	return lows > greatest || highs < least
}

// everyPlaces returns all lists of places of a book in ascending order.
func everyPlaces(b api.Book) [][]int {
	lists := [][]int{nil}
	for p := range b.Stock {
		for _, l := range lists {
			lists = append(lists, append(slices.Clone(l), p))
		}
	}
	return lists
}

// isConsistent reports whether a book of few places is consistent: no places show the contrary.
func isConsistent(b api.Book) bool {
	return !slices.ContainsFunc(everyPlaces(b), func(places []int) bool { return shows(b, places) })
}

// contradict reports whether tickets contradict each other, by its definition.
func contradict(b api.Book, tickets []int) bool {
	b = clone(b)
	for i := range b.Tickets {
		if !slices.Contains(tickets, i) {
			b.Tickets[i].Mass = rng(0, api.MaxMass)
		}
	}
	return !isConsistent(b)
}

// randomRange returns a range about a middle, of at most a width.
func randomRange(r *rand.Rand, middle, width int) api.Range {
	low := middle - r.Intn(width+1)
	return rng(low, low+r.Intn(width+1))
}

// randomTicket returns a ticket between some of so many places and the outside.
func randomTicket(r *rand.Rand, number, places int) api.Ticket {
	from := r.Intn(places+1) - 1
	to := (from+1+1+r.Intn(places))%(places+1) - 1
	return api.Ticket{Id: fmt.Sprint("t", number), From: from, To: to}
}

// randomBook returns a book with few and small masses, about half of the time one that is not consistent.
func randomBook(r *rand.Rand) api.Book {
	var b api.Book
	for range r.Intn(5) {
		b.Stock = append(b.Stock, randomRange(r, r.Intn(5)-2, 2))
	}
	for i := range r.Intn(6) {
		if len(b.Stock) == 0 {
			break
		}
		t := randomTicket(r, i, len(b.Stock))
		t.Mass = randomRange(r, 3+r.Intn(4), 3)
		b.Tickets = append(b.Tickets, t)
	}
	return b
}

// largeBook returns a book with so many places and tickets, and an assignment of it; its masses are up to most.
// Some tickets are known exactly and others hardly, and most stocks better than the tickets, so that many masses follow from others.
func largeBook(r *rand.Rand, places, tickets, most int) (api.Book, []int) {
	b, masses := api.Book{Stock: make([]api.Range, places)}, []int{}
	for i := range tickets {
		t, mass := randomTicket(r, i, places), r.Intn(most+1)
		open := []int{0, most / 100, most / 10, most}[r.Intn(4)]
		t.Mass = rng(max(0, mass-r.Intn(open+1)), min(api.MaxMass, mass+r.Intn(open+1)))
		b.Tickets, masses = append(b.Tickets, t), append(masses, mass)
	}
	for p, change := range changes(b, masses) {
		open := []int{0, most / 1000, most / 20}[r.Intn(3)]
		b.Stock[p] = rng(max(-api.MaxMass, change-r.Intn(open+1)), min(api.MaxMass, change+r.Intn(open+1)))
	}
	return b, masses
}

// proveConflict reports a book that is consistent, or for which the places that are returned do not show the contrary.
func proveConflict(t *testing.T, what string, b api.Book) {
	t.Helper()
	places, e := weigh.Conflict(b)
	expect(t, what+": the error", e, api.OK)
	expect(t, what+": is shown by the places", shows(b, places), true)
	expect(t, what+": the order of the places", slices.IsSorted(places), true)
}
