package weigh

import (
	"slices"

	"bushel/api"
	"bushel/measure"
)

// CheckBook returns the first error of a book, or OK.
func CheckBook(b api.Book) api.Errno {
	if len(b.Stock) > api.MaxPlaces {
		return api.ErrMany
	}
	if e := checkEach(CheckRange, b.Stock...); e != api.OK {
		return e
	}
	if len(b.Tickets) > api.MaxTickets {
		return api.ErrMany
	}
	var ids []string
	for _, t := range b.Tickets {
		if e := checkTicket(t, ids, len(b.Stock)); e != api.OK {
			return e
		}
		ids = append(ids, t.Id)
	}
	return api.OK
}

// checkTicket returns the first error of a ticket between so many places, behind others with these names, or OK.
func checkTicket(t api.Ticket, ids []string, places int) api.Errno {
	switch {
	case !measure.IsName(t.Id):
		return api.ErrName
	case slices.Contains(ids, t.Id):
		return api.ErrTwice
	case t.From < -1 || t.From >= places || t.To < -1 || t.To >= places:
		return api.ErrUnknown
	case t.From == t.To:
		return api.ErrForm
	}
	return checkMass(t.Mass)
}

// checkNumbers returns the error of a list of places, or of tickets, of which there are so many, or OK.
func checkNumbers(l []int, count int) api.Errno {
	for _, number := range l {
		if number < 0 || number >= count {
			return api.ErrUnknown
		}
	}
	for i, number := range l {
		if slices.Contains(l[:i], number) {
			return api.ErrTwice
		}
	}
	return api.OK
}

// contains reports whether a mass is in a range.
func contains(r api.Range, mass int) bool {
	return mass >= r.Low && mass <= r.High
}

// Holds reports whether masses are an assignment of a book.
func Holds(b api.Book, masses []int) (bool, api.Errno) {
	if e := CheckBook(b); e != api.OK {
		return false, e
	}
	if len(masses) != len(b.Tickets) {
		return false, api.ErrShape
	}
	var changes balance
	for i, t := range b.Tickets {
		// Masses in their ranges are small enough for sums.
		if !contains(t.Mass, masses[i]) {
			return false, api.OK
		}
		changes[nodeOf(t.From)] -= masses[i]
		changes[nodeOf(t.To)] += masses[i]
	}
	for place, r := range b.Stock {
		if !contains(r, changes[place]) {
			return false, api.OK
		}
	}
	return true, api.OK
}

// isConsistent reports whether a book without an error has an assignment.
func isConsistent(b api.Book) bool {
	is, _ := newNetwork(b, nil).settle()
	return is
}

// IsConsistent reports whether a book has an assignment.
func IsConsistent(b api.Book) (bool, api.Errno) {
	if e := CheckBook(b); e != api.OK {
		return false, e
	}
	return isConsistent(b), api.OK
}

// assigned returns the network of a book without an error, with the masses of an assignment.
func assigned(b api.Book, joined []int) (*network, api.Errno) {
	n := newNetwork(b, joined)
	if is, _ := n.settle(); !is {
		return nil, api.ErrConflict
	}
	return n, api.OK
}

// Tighten returns the range of each ticket over all assignments.
func Tighten(b api.Book) ([]api.Range, api.Errno) {
	if e := CheckBook(b); e != api.OK {
		return nil, e
	}
	n, e := assigned(b, nil)
	if e != api.OK {
		return nil, e
	}
	var result []api.Range
	for i := range b.Tickets {
		result = append(result, n.extent(i))
	}
	return result, api.OK
}

// Change returns the range of the change of the stocks of places together over all assignments.
func Change(b api.Book, places []int) (api.Range, api.Errno) {
	if e := CheckBook(b); e != api.OK {
		return api.Range{}, e
	}
	if e := checkNumbers(places, len(b.Stock)); e != api.OK {
		return api.Range{}, e
	}
	n, e := assigned(b, places)
	if e != api.OK {
		return api.Range{}, e
	}
	return bounded(n.extent(n.joined()))
}

// Witness returns an assignment in which a ticket has its least or its greatest mass.
func Witness(b api.Book, ticket int, high bool) ([]int, api.Errno) {
	if e := CheckBook(b); e != api.OK {
		return nil, e
	}
	if e := checkNumbers([]int{ticket}, len(b.Tickets)); e != api.OK {
		return nil, e
	}
	n, e := assigned(b, nil)
	if e != api.OK {
		return nil, e
	}
	n.stretch(ticket, high)
	return n.masses(len(b.Tickets)), api.OK
}
