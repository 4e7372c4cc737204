package weigh

import (
	"slices"

	"bushel/api"
)

// Conflict returns places that show that a book has no assignment.
func Conflict(b api.Book) ([]int, api.Errno) {
	if e := CheckBook(b); e != api.OK {
		return nil, e
	}
	is, reached := newNetwork(b, nil).settle()
	if is {
		return nil, api.ErrNone
	}
	// More has to flow to the reached nodes than can flow from them, and so more from the other nodes than can flow to those:
	// the places on either side show it, without the outside those on the side where it is not.
	var places []int
	for place := range b.Stock {
		if reached[place] != reached[outside] {
			places = append(places, place)
		}
	}
	return places, api.OK
}

// CheckConflict returns OK if places show that a book has no assignment.
func CheckConflict(b api.Book, places []int) api.Errno {
	if e := CheckBook(b); e != api.OK {
		return e
	}
	if e := checkNumbers(places, len(b.Stock)); e != api.OK {
		return e
	}
	if !show(places, b) {
		return api.ErrProof
	}
	return api.OK
}

// show reports whether places show that a book has no assignment.
func show(places []int, b api.Book) bool {
	var stock, in, out api.Range
	for _, place := range places {
		stock = plus(stock, b.Stock[place])
	}
	for _, t := range b.Tickets {
		isFrom, isTo := slices.Contains(places, t.From), slices.Contains(places, t.To)
		switch {
		case isTo && !isFrom:
			in = plus(in, t.Mass)
		case isFrom && !isTo:
			out = plus(out, t.Mass)
		}
	}
	return stock.Low > in.High-out.Low || stock.High < in.Low-out.High
}

// without returns a book from which a ticket is left out.
func without(b api.Book, ticket int) api.Book {
	tickets := slices.Clone(b.Tickets)
	tickets[ticket].Mass = api.Range{Low: 0, High: api.MaxMass}
	return api.Book{Stock: b.Stock, Tickets: tickets}
}

// Minimal returns tickets that contradict each other.
func Minimal(b api.Book) ([]int, api.Errno) {
	if e := CheckBook(b); e != api.OK {
		return nil, e
	}
	if isConsistent(b) {
		return nil, api.ErrNone
	}
	var needed []int
	for i := range b.Tickets {
		if rest := without(b, i); isConsistent(rest) {
			needed = append(needed, i)
		} else {
			b = rest
		}
	}
	return needed, api.OK
}

// CheckMinimal returns OK if tickets contradict each other, and none of them can be left out.
func CheckMinimal(b api.Book, tickets []int) api.Errno {
	if e := CheckBook(b); e != api.OK {
		return e
	}
	if e := checkNumbers(tickets, len(b.Tickets)); e != api.OK {
		return e
	}
	for i := range b.Tickets {
		if !slices.Contains(tickets, i) {
			b = without(b, i)
		}
	}
	if isConsistent(b) {
		return api.ErrProof
	}
	for _, i := range tickets {
		if !isConsistent(without(b, i)) {
			return api.ErrProof
		}
	}
	return api.OK
}
