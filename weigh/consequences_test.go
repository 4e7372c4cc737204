package weigh_test

import (
	"fmt"
	"math/rand"
	"slices"
	"testing"

	"bushel/api"
	"bushel/weigh"
)

// P3.4: consequences.

// withRanges returns a book with these ranges in the place of the given ones.
func withRanges(b api.Book, ranges []api.Range) api.Book {
	b = clone(b)
	for i, r := range ranges {
		b.Tickets[i].Mass = r
	}
	return b
}

func TestTightenedBooksHaveTheSameAssignments(t *testing.T) {
	r := rand.New(rand.NewSource(38))
	for range 800 {
		b := randomBook(r)
		ranges, e := weigh.Tighten(b)
		if e != api.OK {
			expect(t, fmt.Sprint(b), e, api.ErrConflict)
			continue
		}
		all := assignments(b)
		for _, masses := range all {
			for i, mass := range masses {
				expect(t, fmt.Sprint("a mass of an assignment: ", b), mass >= ranges[i].Low && mass <= ranges[i].High, true)
			}
		}
		tight := withRanges(b, ranges)
		expectList(t, fmt.Sprint("the assignments: ", b), assignments(tight), all)
		again, e := weigh.Tighten(tight)
		expect(t, "the error of tightening again", e, api.OK)
		expectList(t, fmt.Sprint("tightened again: ", b), again, ranges)
	}
}

func TestBooksAreConsistentOrShownNotToBe(t *testing.T) {
	r := rand.New(rand.NewSource(39))
	outcomes := map[bool]int{}
	for range 300 {
		b, _ := largeBook(r, 1+r.Intn(api.MaxPlaces), r.Intn(api.MaxTickets+1), 1000000)
		for p := range b.Stock {
			if r.Intn(40) == 0 {
				b.Stock[p] = randomRange(r, r.Intn(1000), 100)
			}
		}
		is, e := weigh.IsConsistent(b)
		expect(t, "the error of IsConsistent", e, api.OK)
		places, e := weigh.Conflict(b)
		if is {
			expect(t, "the error of Conflict", e, api.ErrNone)
			expectList(t, "the places of Conflict", places, nil)
		} else {
			expect(t, "the error of Conflict", e, api.OK)
			expect(t, "the places show it", shows(b, places), true)
			expect(t, "CheckConflict of Conflict", weigh.CheckConflict(b, places), api.OK)
		}
		outcomes[is]++
	}
	if outcomes[true] < 50 || outcomes[false] < 50 {
		t.Errorf("%v: the sample is one-sided", outcomes)
	}
}

// narrowed returns a range within another one.
func narrowed(r *rand.Rand, a api.Range) api.Range {
	low := a.Low + r.Intn(a.High-a.Low+1)
	return rng(low, low+r.Intn(a.High-low+1))
}

// expectWithin reports a range that is not within another one.
func expectWithin(t *testing.T, what string, inner, outer api.Range) {
	t.Helper()
	expect(t, fmt.Sprint(what, " ", inner, " within ", outer), inner.Low >= outer.Low && inner.High <= outer.High, true)
}

func TestNarrowerRangesNeverWidenResults(t *testing.T) {
	r := rand.New(rand.NewSource(40))
	compared := 0
	for range 1000 {
		b, _ := largeBook(r, 1+r.Intn(4), 1+r.Intn(8), 40)
		narrow := clone(b)
		if i := r.Intn(len(b.Stock) + len(b.Tickets)); i < len(b.Stock) {
			narrow.Stock[i] = narrowed(r, b.Stock[i])
		} else {
			narrow.Tickets[i-len(b.Stock)].Mass = narrowed(r, b.Tickets[i-len(b.Stock)].Mass)
		}
		if r.Intn(4) == 0 {
			b, narrow = contradictory(b), contradictory(narrow)
		}
		wide, e := weigh.Tighten(b)
		tight, f := weigh.Tighten(narrow)
		if e != api.OK {
			expect(t, fmt.Sprint("a narrower range: ", narrow), f, api.ErrConflict)
			continue
		}
		if f != api.OK {
			continue
		}
		compared++
		for i := range wide {
			expectWithin(t, "Tighten", tight[i], wide[i])
		}
		for _, places := range everyPlaces(b) {
			change, _ := weigh.Change(b, places)
			less, _ := weigh.Change(narrow, places)
			expectWithin(t, "Change", less, change)
		}
	}
	if compared < 300 {
		t.Errorf("%d results were compared: the sample is one-sided", compared)
	}
}

// contradictory returns a book with a further place that receives more than comes to it.
func contradictory(b api.Book) api.Book {
	b = clone(b)
	b.Stock = append(b.Stock, rng(1, 5))
	return b
}

func TestPlacesWithoutTicketsElsewhere(t *testing.T) {
	b := example()
	b.Stock = append(b.Stock, rng(-5, 5), rng(-most, most), rng(-2, 3))
	b.Tickets = append(b.Tickets, ticket("t5", 3, 4, 1, 2), ticket("t6", 4, 3, 0, most))
	for _, places := range [][]int{nil, {2}, {3, 4}, {2, 4, 3}} {
		change, e := weigh.Change(b, places)
		expect(t, fmt.Sprint("Change of ", places), []any{change, e}, []any{api.Range{}, api.OK})
	}
	change, e := weigh.Change(b, []int{3})
	expect(t, "Change of one of two", []any{change, e}, []any{rng(-2, 2), api.OK})
	b.Stock[2] = rng(1, 5)
	_, e = weigh.Change(b, []int{3, 4})
	expect(t, "an idle place that changes", e, api.ErrConflict)
}

func TestResultsShareNoMemory(t *testing.T) {
	b := example()
	first, _ := weigh.Tighten(b)
	first[0] = rng(1, 1)
	second, _ := weigh.Tighten(b)
	expect(t, "Tighten after its result was changed", second[0], rng(500, 510))
	masses, _ := weigh.Witness(b, 0, true)
	masses[0] = 1
	masses, _ = weigh.Witness(b, 0, true)
	expect(t, "Witness after its result was changed", masses[0], 510)
	places := []int{1, 0}
	_, _ = weigh.Change(b, places)
	_ = weigh.CheckConflict(b, places)
	_ = weigh.CheckMinimal(b, places)
	expect(t, "the places of an argument", places, []int{1, 0})
	shown, l := []int{5, 3}, []api.Range{rng(3, 4), rng(1, 9)}
	_, _ = weigh.Drift(shown, rng(0, 1), rng(0, 1))
	_, _ = weigh.Drafts(l)
	_, _ = weigh.Agree(l)
	expect(t, "the masses of an argument", shown, []int{5, 3})
	expect(t, "the ranges of an argument", slices.Equal(l, []api.Range{rng(3, 4), rng(1, 9)}), true)
}
