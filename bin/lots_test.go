package bin_test

import (
	"fmt"
	"math/rand"
	"slices"
	"strings"
	"testing"

	"bushel/api"
	"bushel/bin"
)

// P4.1: amounts.

func TestLots(t *testing.T) {
	for _, row := range []struct {
		l    []api.Layer
		want []bin.Amount
	}{
		{nil, nil}, {parcel(), []bin.Amount{{Lot: "a", Mass: "13"}, {Lot: "b", Mass: "3"}}},
		{[]api.Layer{kindB(3)}, []bin.Amount{{Lot: "a", Mass: "3/2"}, {Lot: "b", Mass: "3/2"}}},
		{[]api.Layer{wheat(1, alone("b")), {Grain: "rye", Mass: 2, Shares: alone("B")}, wheat(3, alone("a-")), wheat(4, alone("a")), wheat(5, alone("b"))},
			[]bin.Amount{{Lot: "B", Mass: "2"}, {Lot: "a", Mass: "4"}, {Lot: "a-", Mass: "3"}, {Lot: "b", Mass: "6"}}},
		{[]api.Layer{wheat(most, many("x", 64))}, amountsIn([]api.Layer{wheat(most, many("x", 64))})},
		{[]api.Layer{wheat(1, many("x", 64)), wheat(1, many("y", 64))}, amountsIn([]api.Layer{wheat(1, many("x", 64)), wheat(1, many("y", 64))})},
		{[]api.Layer{longParts()}, amountsIn([]api.Layer{longParts()})},
	} {
		got, e := bin.Lots(row.l)
		expect(t, fmt.Sprint("Lots of ", row.l), e, api.OK)
		expectList(t, fmt.Sprint("Lots of ", row.l), got, row.want)
	}
	r := rand.New(rand.NewSource(47))
	for range 1000 {
		l := randomParcel(r, 12, "wheat", "rye")
		got, e := bin.Lots(l)
		expect(t, fmt.Sprint("Lots of ", l), e, api.OK)
		expectList(t, fmt.Sprint("Lots of ", l), got, amountsIn(l))
	}
}

// coprime returns four layers, of which the first two have parts of a whose sum has too many digits. With the other two all sums of a and b are whole.
func coprime() []api.Layer {
	p, q := nines(600), strings.Repeat("9", 599)+"7"
	inverse := func(s []api.Share) []api.Share {
		return []api.Share{{Lot: "a", Part: s[1].Part}, {Lot: "b", Part: s[0].Part}}
	}
	first, second := parts("a", api.Rat("1/"+p), "b"), parts("a", api.Rat("1/"+q), "b")
	return []api.Layer{wheat(1, first), wheat(1, second), wheat(1, inverse(first)), wheat(1, inverse(second))}
}

func TestLongNumbers(t *testing.T) {
	l := coprime()
	amounts, e := bin.Lots(l[:2])
	expect(t, "a sum that is too long", e, api.ErrLarge)
	expectList(t, "a sum that is too long", amounts, nil)
	amounts, e = bin.Lots(l)
	expect(t, "a sum that is too long on the way", []any{amounts, e}, []any{[]bin.Amount{{Lot: "a", Mass: "2"}, {Lot: "b", Mass: "2"}}, api.OK})
	pooled, e := bin.Pool(l, "wheat")
	expect(t, "Pool", []any{pooled, e}, []any{kindB(4), api.OK})
	amounts, e = bin.Lots([]api.Layer{wheat(2, parts("a", api.Rat("1/"+nines(600)), "b"))})
	expect(t, "one mass of two is too long", e, api.ErrLarge)
	expectList(t, "one mass of two is too long", amounts, nil)

	b := ofCells(0, l, l[:1], nil)
	masses, e := bin.Where(b, "a")
	expect(t, "Where", []any{masses, e}, []any{[]api.Rat{"2", l[0].Shares[0].Part, "0"}, api.OK})
	b.Cells[2] = l[:2]
	masses, e = bin.Where(b, "a")
	expect(t, "Where of a sum that is too long", e, api.ErrLarge)
	expectList(t, "Where of a sum that is too long", masses, nil)
	b.Cells[2] = append(slices.Clone(l[:2]), kindC())
	masses, e = bin.Where(b, "c")
	expect(t, "Where beside sums that are too long", []any{masses, e}, []any{[]api.Rat{"0", "0", "5"}, api.OK})
}

// kindC returns five kilograms of the lot c.
func kindC() api.Layer { return wheat(5, alone("c")) }

// P4.5: where lots are, and when they leave.

func TestWhere(t *testing.T) {
	for _, row := range []struct {
		b    api.Bin
		lot  string
		want []api.Rat
		e    api.Errno
	}{
		{b: example(), lot: "a", want: []api.Rat{"13", "5"}}, {b: example(), lot: "b", want: []api.Rat{"3", "0"}}, {b: example(), lot: "c", want: []api.Rat{"0", "0"}},
		{b: example(), lot: "A", want: []api.Rat{"0", "0"}}, {b: ofCells(0, []api.Layer{kindB(3), kindA(1), kindB(2)}, nil), lot: "b", want: []api.Rat{"5/2", "0"}},
		{b: example(), lot: "", e: api.ErrName}, {b: example(), lot: "a b", e: api.ErrName}, {b: example(), lot: strings.Repeat("x", 25), e: api.ErrName},
		{b: ofCells(2, []api.Layer{kindA(most)}), lot: "a", want: []api.Rat{"999999999"}},
	} {
		got, e := bin.Where(row.b, row.lot)
		expect(t, fmt.Sprint("Where ", row.b, row.lot), e, row.e)
		expectList(t, fmt.Sprint("Where ", row.b, row.lot), got, row.want)
	}
}

func TestFirstAndLast(t *testing.T) {
	inMass := ofCells(0, []api.Layer{kindA(10), kindC(), kindB(6)}, nil)
	great := ofCells(1000, []api.Layer{kindA(most - 1)}, []api.Layer{kindC(), kindA(most - 10), kindC()})
	for _, row := range []struct {
		what        string
		b           api.Bin
		cell        int
		lot         string
		first, last int
		e           api.Errno
	}{
		{what: "the example", b: example(), lot: "b", first: 2, last: 8}, {what: "the example", b: example(), lot: "a", first: 1, last: 16},
		{what: "the second cell", b: example(), cell: 1, lot: "a", first: 1, last: 5}, {what: "mass flow", b: inMass, lot: "a", first: 1, last: 21},
		{what: "mass flow", b: inMass, lot: "b", first: 16, last: 21}, {what: "mass flow", b: inMass, lot: "c", first: 11, last: 15},
		{what: "a great level", b: great, lot: "a", first: 1, last: most - 1}, {what: "a great level", b: great, cell: 1, lot: "c", first: 1, last: 5000},
		{what: "a lot of the other cell", b: example(), cell: 1, lot: "b", e: api.ErrNone}, {what: "an empty cell", b: inMass, cell: 1, lot: "a", e: api.ErrNone},
		{what: "an unknown lot", b: example(), lot: "c", e: api.ErrNone}, {what: "no name", b: inMass, cell: 1, lot: "", e: api.ErrName},
		{what: "a name with a blank", b: example(), lot: "a b", e: api.ErrName},
	} {
		got, e := bin.First(row.b, row.cell, row.lot)
		expect(t, fmt.Sprint("First: ", row.what, row.lot), []any{got, e}, []any{row.first, row.e})
		got, e = bin.Last(row.b, row.cell, row.lot)
		expect(t, fmt.Sprint("Last: ", row.what, row.lot), []any{got, e}, []any{row.last, row.e})
	}
}

// holds reports whether one of some kilograms has a part of a lot.
func holds(kinds []string, lot string) bool {
	return slices.ContainsFunc(kinds, func(kind string) bool { return strings.Contains(kind, "{"+lot+" ") })
}

func TestLotsOfBinsKilogramForKilogram(t *testing.T) {
	r := rand.New(rand.NewSource(48))
	for range 1500 {
		b := randomBin(r, 8)
		before := copyOfBin(b)
		for _, lot := range []string{"a", "b", "c", "d001"} {
			where, e := bin.Where(b, lot)
			expect(t, fmt.Sprint("Where ", b, lot), []any{len(where), e}, []any{len(b.Cells), api.OK})
			for cell, l := range b.Cells {
				what := fmt.Sprint(b, cell, lot)
				mass := massesIn(l)[lot]
				if mass == nil {
					expect(t, "Where: "+what, where[cell], api.Rat("0"))
				} else {
					expect(t, "Where: "+what, where[cell], api.Rat(mass.RatString()))
				}
				checkFirstAndLast(t, what, b, cell, lot)
			}
		}
		expect(t, "the argument", b, before)
	}
}

// checkFirstAndLast checks when a lot leaves a cell.
func checkFirstAndLast(t *testing.T, what string, b api.Bin, cell int, lot string) {
	t.Helper()
	first, e := bin.First(b, cell, lot)
	last, e2 := bin.Last(b, cell, lot)
	expect(t, what, e2, e)
	if !holds(kilograms(b.Cells[cell]), lot) {
		expect(t, what, []any{first, last, e}, []any{0, 0, api.ErrNone})
		return
	}
	expect(t, what, e, api.OK)
	for mass := range weight(b.Cells[cell]) + 1 {
		outflow, rest := takeOut(b, cell, mass)
		expect(t, "First: "+what, mass >= first, holds(outflow, lot))
		expect(t, "Last: "+what, mass >= last, !holds(rest, lot))
	}
}
