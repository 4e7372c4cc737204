package ledger

import (
	"bushel/api"
	"bushel/measure"
)

// owner is a holder of receipts of a grade.
type owner struct {
	holder string
	grade  string
}

// pledge is what a holder has pledged to another one, of a grade.
type pledge struct {
	holder string
	other  string
	grade  string
}

// kind is a kind of entries: which fields it uses beside the grade and the mass, and what does an entry, or returns its refusal.
type kind struct {
	usesHolder bool
	usesOther  bool
	do         func(e api.Entry) api.Errno
}

// book is what the entries of a ledger have led to: masses in store, receipts of each grade, and what is held and pledged.
type book struct {
	kinds    map[string]kind
	stock    map[string]int
	receipts map[string]int
	held     map[owner]int
	pledged  map[owner]int
	pledges  map[pledge]int
}

// newBook returns a book without entries.
func newBook() *book {
	b := &book{
		stock: map[string]int{}, receipts: map[string]int{},
		held: map[owner]int{}, pledged: map[owner]int{}, pledges: map[pledge]int{},
	}
	b.kinds = map[string]kind{
		"store":    {do: b.store},
		"ship":     {do: b.ship},
		"issue":    {usesHolder: true, do: b.issue},
		"cancel":   {usesHolder: true, do: b.cancel},
		"transfer": {usesHolder: true, usesOther: true, do: b.transfer},
		"pledge":   {usesHolder: true, usesOther: true, do: b.pledge},
		"release":  {usesHolder: true, usesOther: true, do: b.release},
	}
	return b
}

// checkEntry returns the first error of an entry by itself, or OK.
func (b *book) checkEntry(e api.Entry) api.Errno {
	k, exists := b.kinds[e.Kind]
	switch {
	case !isDay(e.Day):
		return api.ErrDay
	case !exists:
		return api.ErrKind
	case k.usesHolder && !measure.IsName(e.Holder), k.usesOther && !measure.IsName(e.Other), !measure.IsName(e.Grade):
		return api.ErrName
	case k.usesOther && e.Other == e.Holder:
		return api.ErrTwice
	case e.Mass == 0 || !isMass(e.Mass):
		return api.ErrRange
	case !k.usesHolder && e.Holder != "", !k.usesOther && e.Other != "":
		return api.ErrForm
	}
	return api.OK
}

// CheckEntry returns the first error of an entry by itself, or OK.
func CheckEntry(e api.Entry) api.Errno { return newBook().checkEntry(e) }

// store lets the stock grow.
func (b *book) store(e api.Entry) api.Errno {
	if b.stock[e.Grade]+e.Mass > api.MaxMass {
		return api.ErrFull
	}
	b.stock[e.Grade] += e.Mass
	return api.OK
}

// ship lets the stock fall.
func (b *book) ship(e api.Entry) api.Errno {
	rest := b.stock[e.Grade] - e.Mass
	switch {
	case rest < 0:
		return api.ErrEmpty
	case rest < b.receipts[e.Grade]:
		return api.ErrBalance
	}
	b.stock[e.Grade] = rest
	return api.OK
}

// issue gives a holder more.
func (b *book) issue(e api.Entry) api.Errno {
	if b.receipts[e.Grade]+e.Mass > b.stock[e.Grade] {
		return api.ErrBalance
	}
	b.receipts[e.Grade] += e.Mass
	b.held[owner{e.Holder, e.Grade}] += e.Mass
	return api.OK
}

// isFree reports whether the holder of an entry has its mass, and has not pledged it.
func (b *book) isFree(e api.Entry) bool {
	from := owner{e.Holder, e.Grade}
	return b.held[from]-b.pledged[from] >= e.Mass
}

// cancel gives a holder less.
func (b *book) cancel(e api.Entry) api.Errno {
	if !b.isFree(e) {
		return api.ErrEmpty
	}
	b.receipts[e.Grade] -= e.Mass
	b.held[owner{e.Holder, e.Grade}] -= e.Mass
	return api.OK
}

// transfer gives what a holder has to the other one.
func (b *book) transfer(e api.Entry) api.Errno {
	if !b.isFree(e) {
		return api.ErrEmpty
	}
	b.held[owner{e.Holder, e.Grade}] -= e.Mass
	b.held[owner{e.Other, e.Grade}] += e.Mass
	return api.OK
}

// pledge pledges what a holder has to the other one.
func (b *book) pledge(e api.Entry) api.Errno {
	if !b.isFree(e) {
		return api.ErrEmpty
	}
	b.pledged[owner{e.Holder, e.Grade}] += e.Mass
	b.pledges[pledge{e.Holder, e.Other, e.Grade}] += e.Mass
	return api.OK
}

// release ends a pledge, or a part of it.
func (b *book) release(e api.Entry) api.Errno {
	p := pledge{e.Holder, e.Other, e.Grade}
	if b.pledges[p] < e.Mass {
		return api.ErrEmpty
	}
	b.pledged[owner{e.Holder, e.Grade}] -= e.Mass
	b.pledges[p] -= e.Mass
	return api.OK
}

// enter does the entries of a ledger. It returns the number of those before the first one with an error, and this error.
func (b *book) enter(l []api.Entry) (int, api.Errno) {
	if len(l) > api.MaxEntries {
		return 0, api.ErrMany
	}
	for i, entry := range l {
		if e := b.checkEntry(entry); e != api.OK {
			return i, e
		}
		if i > 0 && entry.Day < l[i-1].Day {
			return i, api.ErrDay
		}
		if e := b.kinds[entry.Kind].do(entry); e != api.OK {
			return i, e
		}
	}
	return len(l), api.OK
}

// Check returns how many entries are accepted before the first one with an error, and this error.
func Check(l []api.Entry) (int, api.Errno) { return newBook().enter(l) }
