package weigh_test

import (
	"fmt"
	"math/rand"
	"slices"
	"testing"

	"bushel/api"
	"bushel/weigh"
)

// P3.3: contradictions.

func TestConflict(t *testing.T) {
	proveConflict(t, "the example", contradiction())
	for what, b := range map[string]api.Book{"the example": example(), "nothing": {}, "places alone": {Stock: []api.Range{rng(-1, 1)}}} {
		places, e := weigh.Conflict(b)
		expect(t, what, e, api.ErrNone)
		expectList(t, what, places, nil)
		tickets, e := weigh.Minimal(b)
		expect(t, what, e, api.ErrNone)
		expectList(t, what, tickets, nil)
	}
}

func TestCheckConflict(t *testing.T) {
	for _, row := range []struct {
		what   string
		b      api.Book
		places []int
		e      api.Errno
	}{
		{"the example", contradiction(), []int{0, 1}, api.OK}, {"the other way round", contradiction(), []int{1, 0}, api.OK},
		{"the pit alone", contradiction(), []int{0}, api.ErrProof}, {"the bin alone", contradiction(), []int{1}, api.ErrProof}, {"no places", contradiction(), nil, api.ErrProof},
		{"a consistent book", example(), []int{0, 1}, api.ErrProof}, {"a consistent book, no places", example(), []int{}, api.ErrProof},
	} {
		expect(t, row.what, weigh.CheckConflict(row.b, row.places), row.e)
	}
	for what, bad := range badNumbers() {
		expect(t, what, weigh.CheckConflict(contradiction(), bad.l), bad.e)
		expect(t, what, weigh.CheckConflict(example(), bad.l), bad.e)
	}
}

// TestCheckConflictAtItsLimits checks both conditions, where they hardly hold, and hardly do not.
func TestCheckConflictAtItsLimits(t *testing.T) {
	b := api.Book{Stock: []api.Range{rng(10, 20), rng(-most, most)}, Tickets: []api.Ticket{
		ticket("a", -1, 0, 5, 12), ticket("b", 1, 0, 0, 3), ticket("c", 0, -1, 4, 9), ticket("d", 0, 1, 1, 2), ticket("e", 1, -1, 0, most),
	}}
	// From -6 to 10 kg are changed.
	for _, row := range []struct {
		stock api.Range
		e     api.Errno
	}{{rng(10, 20), api.ErrProof}, {rng(11, 20), api.OK}, {rng(-20, -6), api.ErrProof}, {rng(-20, -7), api.OK}, {rng(-5, 9), api.ErrProof}} {
		b.Stock[0] = row.stock
		expect(t, fmt.Sprint("the stock ", row.stock), weigh.CheckConflict(b, []int{0}), row.e)
		is, e := weigh.IsConsistent(b)
		expect(t, fmt.Sprint("the stock ", row.stock), []any{is, e}, []any{row.e == api.ErrProof, api.OK})
	}
}

func TestMinimal(t *testing.T) {
	chain := api.Book{Stock: []api.Range{{}, {}, rng(-9, 9)}, Tickets: []api.Ticket{
		ticket("a", -1, 0, 1, 2), ticket("b", 0, 1, 0, 9), ticket("c", 1, 2, 4, 5), ticket("d", 2, -1, 0, 5), ticket("e", 2, -1, 0, 5),
	}}
	for _, row := range []struct {
		what    string
		b       api.Book
		tickets []int
	}{
		{"the example", contradiction(), []int{0, 1, 3}},
		{"the pit", chain, []int{0, 2}},
		{"the stocks alone", api.Book{Stock: []api.Range{rng(-2, -1), {}}, Tickets: []api.Ticket{ticket("a", -1, 0, 3, 4), ticket("b", 1, 0, 0, 0)}}, nil},
		{"no tickets", api.Book{Stock: []api.Range{rng(1, 2)}}, nil},
		{"the later ones of several", api.Book{Stock: []api.Range{{}}, Tickets: []api.Ticket{ticket("a", -1, 0, 1, 2), ticket("b", 0, -1, 3, 4), ticket("c", 0, -1, 3, 4)}}, []int{0, 2}},
		{"left out, as much as the greatest mass", api.Book{Stock: []api.Range{rng(most, most)}, Tickets: []api.Ticket{ticket("a", -1, 0, 0, 5)}}, []int{0}},
		{"left out, no more than the greatest mass",
			api.Book{Stock: []api.Range{{}}, Tickets: []api.Ticket{ticket("a", -1, 0, 0, 5), ticket("b", 0, -1, most, most), ticket("c", 0, -1, 1, 1)}}, []int{1, 2}},
		{"stocks that take more than the greatest mass",
			api.Book{Stock: []api.Range{rng(most, most), rng(1, most)}, Tickets: []api.Ticket{ticket("a", -1, 0, most, most), ticket("b", 0, 1, 1, 1)}}, nil},
	} {
		got, e := weigh.Minimal(row.b)
		expect(t, row.what, e, api.OK)
		expectList(t, row.what, got, row.tickets)
		expect(t, row.what, weigh.CheckMinimal(row.b, row.tickets), api.OK)
	}
}

func TestCheckMinimal(t *testing.T) {
	for _, row := range []struct {
		what    string
		tickets []int
		e       api.Errno
	}{
		{"the example", []int{0, 1, 3}, api.OK}, {"in another order", []int{3, 0, 1}, api.OK}, {"all", []int{0, 1, 2, 3}, api.ErrProof},
		{"too few", []int{0, 1}, api.ErrProof}, {"others", []int{1, 2, 3}, api.ErrProof}, {"none", nil, api.ErrProof},
	} {
		expect(t, row.what, weigh.CheckMinimal(contradiction(), row.tickets), row.e)
	}
	for _, tickets := range [][]int{nil, {0}, {0, 1, 3}} {
		expect(t, "a consistent book", weigh.CheckMinimal(example(), tickets), api.ErrProof)
	}
	alone := api.Book{Stock: []api.Range{rng(-2, -1)}, Tickets: []api.Ticket{ticket("a", -1, 0, 3, 4), ticket("b", -1, 0, 0, 1)}}
	expect(t, "the stocks alone", weigh.CheckMinimal(alone, nil), api.OK)
	expect(t, "one too many", weigh.CheckMinimal(alone, []int{1}), api.ErrProof)
	for what, bad := range badNumbers() {
		expect(t, what, weigh.CheckMinimal(alone, bad.l), bad.e)
	}
	expect(t, "an unknown ticket of a consistent book", weigh.CheckMinimal(example(), []int{4}), api.ErrUnknown)
	expect(t, "the same ticket of a consistent book", weigh.CheckMinimal(example(), []int{3, 3}), api.ErrTwice)
}

// needed returns the tickets that are left of a book that is not consistent, by the definition of Minimal.
func needed(b api.Book) []int {
	var left []int
	for i := range b.Tickets {
		left = append(left, i)
	}
	for i := range b.Tickets {
		others := slices.DeleteFunc(slices.Clone(left), func(k int) bool { return k == i })
		if contradict(b, others) {
			left = others
		}
	}
	return left
}

// isMinimal reports whether tickets contradict each other, and do not without any of them.
func isMinimal(b api.Book, tickets []int) bool {
	if !contradict(b, tickets) {
		return false
	}
	for k := range tickets {
		if contradict(b, slices.Delete(slices.Clone(tickets), k, k+1)) {
			return false
		}
	}
	return true
}

func TestContradictionsAgainstTheirDefinitions(t *testing.T) {
	r := rand.New(rand.NewSource(36))
	shown, lengths := 0, map[int]int{}
	for range 600 {
		b := randomBook(r)
		what, before := fmt.Sprint(b), clone(b)
		for _, places := range everyPlaces(b) {
			want := api.ErrProof
			if shows(b, places) {
				want = api.OK
			}
			r.Shuffle(len(places), func(i, k int) { places[i], places[k] = places[k], places[i] })
			expect(t, fmt.Sprint("CheckConflict of ", places, ": ", what), weigh.CheckConflict(b, places), want)
		}
		if isConsistent(b) {
			_, e := weigh.Conflict(b)
			expect(t, "Conflict: "+what, e, api.ErrNone)
			_, e = weigh.Minimal(b)
			expect(t, "Minimal: "+what, e, api.ErrNone)
		} else {
			shown++
			proveConflict(t, what, b)
			tickets, e := weigh.Minimal(b)
			expect(t, "Minimal: "+what, e, api.OK)
			expectList(t, "Minimal: "+what, tickets, needed(b))
			expect(t, "CheckMinimal of Minimal: "+what, weigh.CheckMinimal(b, tickets), api.OK)
			lengths[len(tickets)]++
		}
		for range 4 {
			tickets := r.Perm(len(b.Tickets))[:r.Intn(len(b.Tickets)+1)]
			want := api.ErrProof
			if isMinimal(b, tickets) {
				want = api.OK
			}
			expect(t, fmt.Sprint("CheckMinimal of ", tickets, ": ", what), weigh.CheckMinimal(b, tickets), want)
		}
		expectList(t, "the argument", b.Tickets, before.Tickets)
		expectList(t, "the argument", b.Stock, before.Stock)
	}
	if shown < 150 || lengths[0] == 0 || lengths[1] == 0 || lengths[2] == 0 || lengths[3] == 0 {
		t.Errorf("%d contradictions with %v tickets: the sample is one-sided", shown, lengths)
	}
}

// tightenedFrom returns a ticket whose High was tightened: the first one from a number on, and around the end of the list.
func tightenedFrom(b api.Book, ranges []api.Range, from int) int {
	for i := range ranges {
		if k := (from + i) % len(ranges); ranges[k].High < b.Tickets[k].Mass.High {
			return k
		}
	}
	panic("no range was tightened")
}

func TestLargeContradictions(t *testing.T) {
	r := rand.New(rand.NewSource(37))
	for range 12 {
		b, _ := largeBook(r, api.MaxPlaces, api.MaxTickets, 5000000)
		ranges, e := weigh.Tighten(b)
		expect(t, "Tighten", e, api.OK)
		i := tightenedFrom(b, ranges, r.Intn(len(ranges)))
		b.Tickets[i].Mass.Low = ranges[i].High + 1
		proveConflict(t, "a ticket above its range", b)
		tickets, e := weigh.Minimal(b)
		expect(t, "Minimal", e, api.OK)
		expect(t, "the order", slices.IsSorted(tickets), true)
		expect(t, "the ticket is needed", slices.Contains(tickets, i), true)
		expect(t, "CheckMinimal", weigh.CheckMinimal(b, tickets), api.OK)
		expect(t, "CheckMinimal without one", weigh.CheckMinimal(b, tickets[1:]), api.ErrProof)
	}
}
