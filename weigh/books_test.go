package weigh_test

import (
	"fmt"
	"math"
	"math/rand"
	"slices"
	"strings"
	"testing"

	"bushel/api"
	"bushel/weigh"
)

// P3.2: books.

func TestCheckBook(t *testing.T) {
	full, _ := largeBook(rand.New(rand.NewSource(33)), api.MaxPlaces, api.MaxTickets, 1000)
	for what, b := range map[string]api.Book{
		"nothing": {}, "empty lists": {Stock: []api.Range{}, Tickets: []api.Ticket{}}, "the example": example(), "the most places and tickets": full,
		"places alone":   {Stock: []api.Range{rng(-most, most), rng(5, 5)}},
		"a long name":    {Stock: []api.Range{{}}, Tickets: []api.Ticket{ticket(strings.Repeat("x", api.MaxName), 0, -1, 0, most)}},
		"names by case":  {Stock: []api.Range{{}}, Tickets: []api.Ticket{ticket("a", 0, -1, 0, 0), ticket("A", 0, -1, most, most)}},
		"the last place": {Stock: make([]api.Range, api.MaxPlaces), Tickets: []api.Ticket{ticket("a", 31, 0, 0, 0), ticket("b", -1, 31, 0, 0)}},
	} {
		expect(t, what, weigh.CheckBook(b), api.OK)
	}
	for _, bad := range badBooks() {
		expect(t, bad.what, weigh.CheckBook(bad.b), bad.e)
	}
}

// TestBadBooks checks that each function returns the error of the book before those of its other arguments.
func TestBadBooks(t *testing.T) {
	for _, bad := range badBooks() {
		is, e := weigh.Holds(bad.b, []int{1})
		expect(t, "Holds: "+bad.what, []any{is, e}, []any{false, bad.e})
		is, e = weigh.IsConsistent(bad.b)
		expect(t, "IsConsistent: "+bad.what, []any{is, e}, []any{false, bad.e})
		ranges, e := weigh.Tighten(bad.b)
		expect(t, "Tighten: "+bad.what, e, bad.e)
		expectList(t, "Tighten: "+bad.what, ranges, nil)
		change, e := weigh.Change(bad.b, []int{-1, 99})
		expect(t, "Change: "+bad.what, []any{change, e}, []any{api.Range{}, bad.e})
		masses, e := weigh.Witness(bad.b, -1, true)
		expect(t, "Witness: "+bad.what, e, bad.e)
		expectList(t, "Witness: "+bad.what, masses, nil)
		places, e := weigh.Conflict(bad.b)
		expect(t, "Conflict: "+bad.what, e, bad.e)
		expectList(t, "Conflict: "+bad.what, places, nil)
		tickets, e := weigh.Minimal(bad.b)
		expect(t, "Minimal: "+bad.what, e, bad.e)
		expectList(t, "Minimal: "+bad.what, tickets, nil)
		expect(t, "CheckConflict: "+bad.what, weigh.CheckConflict(bad.b, []int{-1}), bad.e)
		expect(t, "CheckMinimal: "+bad.what, weigh.CheckMinimal(bad.b, []int{-1}), bad.e)
	}
}

func TestHolds(t *testing.T) {
	for _, row := range []struct {
		masses []int
		want   bool
		e      api.Errno
	}{
		{[]int{500, 480, 980, 50}, true, api.OK}, {[]int{510, 500, 1010, 100}, true, api.OK},
		{[]int{500, 480, 981, 50}, false, api.OK}, {[]int{500, 480, 979, 50}, false, api.OK}, {[]int{510, 500, 1010, 59}, false, api.OK},
		{[]int{499, 481, 980, 50}, false, api.OK}, {[]int{511, 480, 991, 50}, false, api.OK}, {[]int{500, 480, 980, 101}, false, api.OK}, {[]int{500, 480, 980, 49}, false, api.OK},
		{[]int{-500, 480, 980, 50}, false, api.OK}, {[]int{math.MinInt, math.MaxInt, math.MinInt, math.MaxInt}, false, api.OK},
		{[]int{0, 0, 0, 0}, false, api.OK},
		{[]int{500, 480, 980}, false, api.ErrShape}, {[]int{500, 480, 980, 50, 0}, false, api.ErrShape}, {nil, false, api.ErrShape},
	} {
		got, e := weigh.Holds(example(), row.masses)
		expect(t, fmt.Sprint("Holds of ", row.masses), e, row.e)
		expect(t, fmt.Sprint("Holds of ", row.masses), got, row.want)
	}
	got, e := weigh.Holds(api.Book{}, nil)
	expect(t, "nothing", []any{got, e}, []any{true, api.OK})
	got, e = weigh.Holds(api.Book{Stock: []api.Range{rng(1, 2)}}, []int{})
	expect(t, "a change without a ticket", []any{got, e}, []any{false, api.OK})
}

func TestExampleOfBooks(t *testing.T) {
	b := example()
	is, e := weigh.IsConsistent(b)
	expect(t, "IsConsistent", []any{is, e}, []any{true, api.OK})
	ranges, e := weigh.Tighten(b)
	expect(t, "Tighten", e, api.OK)
	expect(t, "Tighten", ranges, []api.Range{rng(500, 510), rng(480, 500), rng(980, 1010), rng(50, 100)})
	change, e := weigh.Change(b, []int{0, 1})
	expect(t, "Change", []any{change, e}, []any{rng(900, 950), api.OK})
	b.Stock = []api.Range{rng(-1000, 1000), rng(-1000, 1000)}
	change, e = weigh.Change(b, []int{1, 0})
	expect(t, "Change of unknown stocks", []any{change, e}, []any{rng(880, 960), api.OK})
}

func TestConflictingBooks(t *testing.T) {
	for what, b := range map[string]api.Book{
		"the example": contradiction(), "places alone": {Stock: []api.Range{rng(0, 0), rng(1, 2)}}, "a place that loses": {Stock: []api.Range{rng(-2, -1)}},
		"the greatest masses": {Stock: []api.Range{rng(most, most)}, Tickets: []api.Ticket{ticket("a", -1, 0, 0, most), ticket("b", 0, -1, 1, 1)}},
	} {
		is, e := weigh.IsConsistent(b)
		expect(t, "IsConsistent: "+what, []any{is, e}, []any{false, api.OK})
		ranges, e := weigh.Tighten(b)
		expect(t, "Tighten: "+what, e, api.ErrConflict)
		expectList(t, "Tighten: "+what, ranges, nil)
		for _, places := range [][]int{nil, {0}} {
			change, e := weigh.Change(b, places)
			expect(t, "Change: "+what, []any{change, e}, []any{api.Range{}, api.ErrConflict})
		}
		for i := range b.Tickets {
			masses, e := weigh.Witness(b, i, i == 0)
			expect(t, "Witness: "+what, e, api.ErrConflict)
			expectList(t, "Witness: "+what, masses, nil)
		}
	}
}

func TestErrorsOfChange(t *testing.T) {
	for _, b := range []api.Book{example(), contradiction()} {
		for what, bad := range badNumbers() {
			change, e := weigh.Change(b, bad.l)
			expect(t, what, []any{change, e}, []any{api.Range{}, bad.e})
		}
	}
	wide := api.Book{Stock: []api.Range{rng(-most, most), rng(-most, most)}, Tickets: []api.Ticket{
		ticket("a", -1, 0, 0, most), ticket("b", -1, 1, 0, 0), ticket("c", 1, -1, 0, 1),
	}}
	for _, row := range []struct {
		what   string
		masses [3]api.Range
		want   api.Range
		e      api.Errno
	}{
		{"the greatest change", [3]api.Range{rng(0, most), {}, rng(0, 1)}, rng(-1, most), api.OK},
		{"one that is too great", [3]api.Range{rng(0, most), rng(1, 1), {}}, api.Range{}, api.ErrLarge},
		{"one that is surely too great", [3]api.Range{rng(most, most), rng(most, most), {}}, api.Range{}, api.ErrLarge},
		{"the least change", [3]api.Range{{}, {}, rng(most, most)}, rng(-most, -most), api.OK},
	} {
		for i, m := range row.masses {
			wide.Tickets[i].Mass = m
		}
		change, e := weigh.Change(wide, []int{0, 1})
		expect(t, row.what, []any{change, e}, []any{row.want, row.e})
	}
	lost := api.Book{Stock: []api.Range{rng(-most, -1), rng(-most, most)}, Tickets: []api.Ticket{ticket("a", 0, -1, 0, most), ticket("b", 1, -1, 0, 1)}}
	change, e := weigh.Change(lost, []int{0, 1})
	expect(t, "one that is too little", []any{change, e}, []any{api.Range{}, api.ErrLarge})
	change, e = weigh.Change(lost, []int{0})
	expect(t, "one place of them", []any{change, e}, []any{rng(-most, -1), api.OK})
}

func TestErrorsOfWitness(t *testing.T) {
	for _, b := range []api.Book{example(), contradiction(), {}} {
		for _, i := range []int{-1, 4, math.MinInt, math.MaxInt} {
			masses, e := weigh.Witness(b, i, true)
			expect(t, fmt.Sprint("Witness for ", i), e, api.ErrUnknown)
			expectList(t, fmt.Sprint("Witness for ", i), masses, nil)
		}
	}
}

func TestSmallBooks(t *testing.T) {
	for what, b := range map[string]api.Book{"nothing": {}, "places alone": {Stock: []api.Range{rng(-1, 0), rng(0, most)}}} {
		is, e := weigh.IsConsistent(b)
		expect(t, "IsConsistent: "+what, []any{is, e}, []any{true, api.OK})
		ranges, e := weigh.Tighten(b)
		expect(t, "Tighten: "+what, e, api.OK)
		expectList(t, "Tighten: "+what, ranges, nil)
		for _, places := range everyPlaces(b) {
			change, e := weigh.Change(b, places)
			expect(t, "Change: "+what, []any{change, e}, []any{api.Range{}, api.OK})
		}
	}
	ring := api.Book{Stock: []api.Range{{}, {}, {}}, Tickets: []api.Ticket{ticket("a", 0, 1, 0, most), ticket("b", 1, 2, 3, most), ticket("c", 2, 0, 0, 9), ticket("d", -1, 0, 0, 4)}}
	ranges, e := weigh.Tighten(ring)
	expect(t, "what goes round", e, api.OK)
	expect(t, "what goes round", ranges, []api.Range{rng(3, 9), rng(3, 9), rng(3, 9), rng(0, 0)})
}

// checkReconciled checks what is returned for a book with assignments.
func checkReconciled(t *testing.T, b api.Book, all [][]int) {
	t.Helper()
	what := fmt.Sprint(b)
	ranges, e := weigh.Tighten(b)
	expect(t, "Tighten: "+what, e, api.OK)
	expect(t, "Tighten: "+what, len(ranges), len(b.Tickets))
	for i, r := range ranges {
		expect(t, "Tighten: "+what, r, hull(all, func(l []int) int { return l[i] }))
		for mass := r.Low; mass <= r.High; mass++ {
			expect(t, "a mass within a range: "+what, slices.ContainsFunc(all, func(l []int) bool { return l[i] == mass }), true)
		}
		for _, high := range []bool{false, true} {
			masses, e := weigh.Witness(b, i, high)
			expect(t, "Witness: "+what, e, api.OK)
			expect(t, "Witness: "+what, isAssignment(b, masses), true)
			expect(t, "Witness: "+what, masses[i], map[bool]int{false: r.Low, true: r.High}[high])
		}
	}
	for _, places := range everyPlaces(b) {
		want := hull(all, func(l []int) int {
			sum := 0
			for _, p := range places {
				sum += changes(b, l)[p]
			}
			return sum
		})
		slices.Reverse(places)
		change, e := weigh.Change(b, places)
		expect(t, fmt.Sprint("Change of ", places, ": ", what), []any{change, e}, []any{want, api.OK})
	}
}

func TestBooksAgainstAllMasses(t *testing.T) {
	r := rand.New(rand.NewSource(34))
	consistent, books := 0, 6000
	for range books {
		b := randomBook(r)
		before := clone(b)
		all := assignments(b)
		is, e := weigh.IsConsistent(b)
		expect(t, fmt.Sprint(b), []any{is, e}, []any{len(all) > 0, api.OK})
		expect(t, "no places show the contrary", isConsistent(b), is)
		for i, masses := range everyMasses(b) {
			if i%7 > 0 && !isAssignment(b, masses) {
				continue
			}
			holds, e := weigh.Holds(b, masses)
			expect(t, fmt.Sprint("Holds: ", b), []any{holds, e}, []any{isAssignment(b, masses), api.OK})
		}
		if is {
			consistent++
			checkReconciled(t, b, all)
		}
		expectList(t, "the argument", b.Tickets, before.Tickets)
		expectList(t, "the argument", b.Stock, before.Stock)
	}
	if consistent < books/4 || consistent > books*3/4 {
		t.Errorf("%d of %d books are consistent: the sample is one-sided", consistent, books)
	}
}

// checkEnds checks the tightened range of a ticket of a book of any size: its ends are reached, and what is beyond them contradicts the book.
// It returns how many ends are not the given ones.
func checkEnds(t *testing.T, b api.Book, i int, r api.Range) (tightened int) {
	t.Helper()
	given := b.Tickets[i].Mass
	for _, high := range []bool{false, true} {
		masses, e := weigh.Witness(b, i, high)
		expect(t, "the error of a witness", e, api.OK)
		expect(t, "a witness is an assignment", isAssignment(b, masses), true)
		expect(t, "the mass of a witness", masses[i], map[bool]int{false: r.Low, true: r.High}[high])
	}
	if r.Low > given.Low {
		tightened++
		beyond := clone(b)
		beyond.Tickets[i].Mass.High = r.Low - 1
		proveConflict(t, "below the range", beyond)
	}
	if r.High < given.High {
		tightened++
		beyond := clone(b)
		beyond.Tickets[i].Mass.Low = r.High + 1
		proveConflict(t, "above the range", beyond)
	}
	return tightened
}

// withSum returns a book in which the changes of the stocks of some places together are in a range: what they change beyond their least changes flows to a new place.
func withSum(b api.Book, places []int, sum api.Range) api.Book {
	b = clone(b)
	for _, p := range places {
		b.Tickets = append(b.Tickets, ticket(fmt.Sprint("sum", p), p, len(b.Stock), 0, b.Stock[p].High-b.Stock[p].Low))
		sum = rng(sum.Low-b.Stock[p].Low, sum.High-b.Stock[p].Low)
		b.Stock[p].High = b.Stock[p].Low
	}
	b.Stock = append(b.Stock, sum)
	return b
}

// checkSum checks the change of places of a book of any size.
func checkSum(t *testing.T, b api.Book, places []int) {
	t.Helper()
	low, high := 0, 0
	for _, p := range places {
		low, high = low+b.Stock[p].Low, high+b.Stock[p].High
	}
	sum, e := weigh.Change(b, places)
	expect(t, "the error of a change", e, api.OK)
	for _, end := range []int{sum.Low, sum.High} {
		is, e := weigh.IsConsistent(withSum(b, places, rng(end, end)))
		expect(t, "an end of a change is reached", []any{is, e}, []any{true, api.OK})
	}
	if low < sum.Low {
		proveConflict(t, "below the change", withSum(b, places, rng(low, sum.Low-1)))
	}
	if high > sum.High {
		proveConflict(t, "above the change", withSum(b, places, rng(sum.High+1, high)))
	}
}

func TestLargeBooks(t *testing.T) {
	r := rand.New(rand.NewSource(35))
	tickets, tightened := 0, 0
	for _, size := range [][2]int{{31, 96}, {31, 96}, {31, 60}, {31, 40}, {20, 40}, {9, 30}, {9, 90}, {2, 100}, {1, 50}} {
		b, planted := largeBook(r, size[0], size[1], 5000000)
		is, e := weigh.Holds(b, planted)
		expect(t, "the assignment of a large book", []any{is, e}, []any{true, api.OK})
		ranges, e := weigh.Tighten(b)
		expect(t, "the error of a large book", e, api.OK)
		for i, mass := range ranges {
			expect(t, "the planted mass is in the range", mass.Low <= planted[i] && planted[i] <= mass.High, true)
			tickets, tightened = tickets+1, tightened+checkEnds(t, b, i, mass)
		}
		for range 10 {
			// Places with a ticket of their own for the sum must not make too many tickets.
			checkSum(t, b, r.Perm(size[0])[:r.Intn(min(size[0], api.MaxTickets-size[1])+1)])
		}
	}
	if tightened < tickets/3 {
		t.Errorf("%d ends of %d tickets were tightened: the sample is one-sided", tightened, tickets)
	}
}

// TestGreatestBook has as many places and tickets as there may be, and the greatest masses.
func TestGreatestBook(t *testing.T) {
	var b api.Book
	for p := range api.MaxPlaces {
		b.Stock = append(b.Stock, rng(0, 0))
		for k := range 4 {
			to := p + 1
			if to == api.MaxPlaces {
				to = -1
			}
			b.Tickets = append(b.Tickets, ticket(fmt.Sprint("t", p, "-", k), to, p, 0, most))
		}
	}
	b.Tickets[1].Mass = rng(7, most)
	b.Tickets[2].Mass = rng(most, most)
	b.Tickets[127].Mass = rng(0, 5)
	b.Stock[0] = rng(-most, most)
	is, e := weigh.IsConsistent(b)
	expect(t, "a stock that cannot take it", []any{is, e}, []any{false, api.OK})
	proveConflict(t, "a stock that cannot take it", b)
	b.Tickets[1].Mass.Low = 0
	ranges, e := weigh.Tighten(b)
	expect(t, "a chain", e, api.OK)
	for i, mass := range ranges {
		want := rng(0, most)
		switch i {
		case 0, 1, 3:
			want = rng(0, 0)
		case 2:
			want = rng(most, most)
		case 127:
			want = rng(0, 5)
		}
		expect(t, b.Tickets[i].Id, mass, want)
	}
}
