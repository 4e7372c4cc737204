package ledger

import (
	"cmp"
	"maps"
	"slices"

	"bushel/api"
	"bushel/measure"
)

// endOf returns the book of a ledger at the end of a day, or the first error of the ledger, the day and some names.
func endOf(l []api.Entry, day int, names ...string) (*book, api.Errno) {
	if _, e := Check(l); e != api.OK {
		return nil, e
	}
	if !isDay(day) {
		return nil, api.ErrDay
	}
	if !areNames(names...) {
		return nil, api.ErrName
	}
	behind := slices.IndexFunc(l, func(e api.Entry) bool { return e.Day > day })
	if behind >= 0 {
		l = l[:behind]
	}
	b := newBook()
	b.enter(l)
	return b, api.OK
}

// areNames reports whether all texts are names.
func areNames(texts ...string) bool {
	for _, text := range texts {
		if !measure.IsName(text) {
			return false
		}
	}
	return true
}

// Accounts returns what the holders have at the end of a day.
func Accounts(l []api.Entry, day int) ([]api.Account, api.Errno) {
	b, e := endOf(l, day)
	if e != api.OK {
		return nil, e
	}
	var accounts []api.Account
	for _, o := range slices.SortedFunc(maps.Keys(b.held), compareOwners) {
		if b.held[o] > 0 {
			accounts = append(accounts, api.Account{Holder: o.holder, Grade: o.grade, Mass: b.held[o], Pledged: b.pledged[o]})
		}
	}
	return accounts, api.OK
}

// compareOwners compares owners by their holders and then by their grades.
func compareOwners(a, b owner) int {
	return cmp.Or(cmp.Compare(a.holder, b.holder), cmp.Compare(a.grade, b.grade))
}

// Held returns what a holder has of a grade at the end of a day, and how much of it is pledged.
func Held(l []api.Entry, day int, holder, grade string) (int, int, api.Errno) {
	b, e := endOf(l, day, holder, grade)
	if e != api.OK {
		return 0, 0, e
	}
	o := owner{holder, grade}
	return b.held[o], b.pledged[o], api.OK
}

// Pledges returns what is pledged at the end of a day.
func Pledges(l []api.Entry, day int) ([]api.Entry, api.Errno) {
	b, e := endOf(l, day)
	if e != api.OK {
		return nil, e
	}
	var pledges []api.Entry
	for _, p := range slices.SortedFunc(maps.Keys(b.pledges), comparePledges) {
		if b.pledges[p] > 0 {
			pledges = append(pledges, api.Entry{Day: day, Kind: "pledge", Holder: p.holder, Other: p.other, Grade: p.grade, Mass: b.pledges[p]})
		}
	}
	return pledges, api.OK
}

// comparePledges compares pledges by who has pledged, then to whom, and then by the grades.
func comparePledges(a, b pledge) int {
	return cmp.Or(cmp.Compare(a.holder, b.holder), cmp.Compare(a.other, b.other), cmp.Compare(a.grade, b.grade))
}

// Stock returns the stock of a grade at the end of a day, and its receipts.
func Stock(l []api.Entry, day int, grade string) (int, int, api.Errno) {
	b, e := endOf(l, day, grade)
	if e != api.OK {
		return 0, 0, e
	}
	return b.stock[grade], b.receipts[grade], api.OK
}

// readCounted returns the counted masses of grades, or the first error of their accounts.
func readCounted(counted []api.Account) (map[string]int, api.Errno) {
	if len(counted) > api.MaxList {
		return nil, api.ErrMany
	}
	masses := map[string]int{}
	for _, a := range counted {
		_, isTwice := masses[a.Grade]
		switch {
		case a.Holder != "" || a.Pledged != 0:
			return nil, api.ErrForm
		case !measure.IsName(a.Grade):
			return nil, api.ErrName
		case isTwice:
			return nil, api.ErrTwice
		case !isMass(a.Mass):
			return nil, api.ErrRange
		}
		masses[a.Grade] = a.Mass
	}
	return masses, api.OK
}

// Balance returns OK if the counted stocks suffice for the receipts at the end of a day.
func Balance(l []api.Entry, day int, counted []api.Account) api.Errno {
	b, e := endOf(l, day)
	if e != api.OK {
		return e
	}
	masses, e := readCounted(counted)
	if e != api.OK {
		return e
	}
	for grade, receipts := range b.receipts {
		// A grade that is not counted has the mass 0, which suffices only if it has no receipts.
		if masses[grade] < receipts {
			return api.ErrBalance
		}
	}
	return api.OK
}

// history returns the history of a holder and a grade in a ledger without errors.
func history(l []api.Entry, holder, grade string) []api.Step {
	own := slices.DeleteFunc(slices.Clone(l), func(e api.Entry) bool { return e.Grade != grade })
	b, o := newBook(), owner{holder, grade}
	var steps []api.Step
	before := 0
	for i, e := range own {
		b.kinds[e.Kind].do(e)
		isEndOfDay := i == len(own)-1 || own[i+1].Day > e.Day
		if mass := b.held[o]; isEndOfDay && mass != before {
			steps = append(steps, api.Step{Day: e.Day, Mass: mass})
			before = mass
		}
	}
	return steps
}

// History returns the masses of a holder and a grade, and from which days on they are held.
func History(l []api.Entry, holder, grade string) ([]api.Step, api.Errno) {
	if _, e := Check(l); e != api.OK {
		return nil, e
	}
	if !areNames(holder, grade) {
		return nil, api.ErrName
	}
	return history(l, holder, grade), api.OK
}
