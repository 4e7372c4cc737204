package ledger_test

import (
	"cmp"
	"fmt"
	"math/rand"
	"slices"
	"testing"

	"bushel/api"
	"bushel/ledger"
)

// P9.2 to P9.4: accounts, counted stocks, and histories.

func TestAccountsOfTheExample(t *testing.T) {
	l := exampleLedger()
	expectList(t, "Accounts of nothing", ok[[]api.Account](t, "Accounts")(ledger.Accounts(nil, 0)), nil)
	expectList(t, "Accounts of the day 0", ok[[]api.Account](t, "Accounts")(ledger.Accounts(l, 0)), nil)
	expectList(t, "Accounts of the day 1", ok[[]api.Account](t, "Accounts")(ledger.Accounts(l, 1)), []api.Account{{Holder: "ann", Grade: "w1", Mass: 600}})
	want := []api.Account{{Holder: "ann", Grade: "w1", Mass: 500, Pledged: 500}, {Holder: "bob", Grade: "w1", Mass: 500}}
	for _, day := range []int{4, 5, api.MaxDay} {
		expectList(t, "Accounts of a late day", ok[[]api.Account](t, "Accounts")(ledger.Accounts(l, day)), want)
		pledges := []api.Entry{entry(day, "pledge", "ann", "bank", "w1", 500)}
		expectList(t, "Pledges of a late day", ok[[]api.Entry](t, "Pledges")(ledger.Pledges(l, day)), pledges)
	}
	expectList(t, "Pledges of the day 2", ok[[]api.Entry](t, "Pledges")(ledger.Pledges(l, 2)), nil)
	stock, receipts, e := ledger.Stock(l, 1, "w1")
	expect(t, "Stock", []any{stock, receipts, e}, []any{1000, 600, api.OK})
	stock, receipts, e = ledger.Stock(l, 2, "w2")
	expect(t, "Stock of another grade", []any{stock, receipts, e}, []any{0, 0, api.OK})
	mass, pledged, e := ledger.Held(l, 3, "ann", "w1")
	expect(t, "Held", []any{mass, pledged, e}, []any{600, 500, api.OK})
	mass, pledged, e = ledger.Held(l, 4, "bank", "w1")
	expect(t, "Held by the bank", []any{mass, pledged, e}, []any{0, 0, api.OK})
	expectList(t, "History of ann", ok[[]api.Step](t, "History")(ledger.History(l, "ann", "w1")), exampleSteps())
	expectList(t, "History of bank", ok[[]api.Step](t, "History")(ledger.History(l, "bank", "w1")), nil)
}

// TestOrderOfAccounts checks names whose order by bytes is not that of letters.
func TestOrderOfAccounts(t *testing.T) {
	names := []string{"b", "Z", "a-b", "a", "a.b", "ab", "9", "_"}
	var l []api.Entry
	for _, grade := range names {
		l = append(l, entry(1, "store", "", "", grade, 100))
		for _, holder := range names {
			l = append(l, entry(1, "issue", holder, "", grade, 2), entry(1, "pledge", holder, holder+"x", grade, 1), entry(1, "pledge", holder, "x", grade, 1))
		}
	}
	accounts := ok[[]api.Account](t, "Accounts")(ledger.Accounts(l, 1))
	expect(t, "accounts", len(accounts), len(names)*len(names))
	expect(t, "accounts in order", slices.IsSortedFunc(accounts, func(a, b api.Account) int {
		return cmp.Or(cmp.Compare(a.Holder, b.Holder), cmp.Compare(a.Grade, b.Grade))
	}), true)
	pledges := ok[[]api.Entry](t, "Pledges")(ledger.Pledges(l, 1))
	expect(t, "pledges", len(pledges), 2*len(names)*len(names))
	expect(t, "pledges in order", slices.IsSortedFunc(pledges, func(a, b api.Entry) int {
		return cmp.Or(cmp.Compare(a.Holder, b.Holder), cmp.Compare(a.Other, b.Other), cmp.Compare(a.Grade, b.Grade))
	}), true)
}

// expectDay checks all that is known of a ledger at the end of a day.
func expectDay(t *testing.T, l []api.Entry, day int) {
	t.Helper()
	what := fmt.Sprint(l, day)
	want := accountsOf(until(l, day))
	count, pledgeCount := 0, 0
	for _, mass := range want.held {
		count += min(mass, 1)
	}
	for _, mass := range want.pledges {
		pledgeCount += min(mass, 1)
	}
	accounts := ok[[]api.Account](t, what)(ledger.Accounts(l, day))
	expect(t, "the number of accounts "+what, len(accounts), count)
	for _, a := range accounts {
		o := [2]string{a.Holder, a.Grade}
		expect(t, "an account "+what, []int{a.Mass, a.Pledged}, []int{want.held[o], want.pledged[o]})
	}
	pledges := ok[[]api.Entry](t, what)(ledger.Pledges(l, day))
	expect(t, "the number of pledges "+what, len(pledges), pledgeCount)
	for _, p := range pledges {
		expect(t, "a pledge "+what, p, entry(day, "pledge", p.Holder, p.Other, p.Grade, want.pledges[[3]string{p.Holder, p.Other, p.Grade}]))
	}
	for _, grade := range []string{"w1", "w2", "w3"} {
		stock, receipts, e := ledger.Stock(l, day, grade)
		expect(t, "the stock "+what, []any{stock, receipts, e}, []any{want.stock[grade], want.receipts[grade], api.OK})
		for _, holder := range []string{"ann", "bob", "zoe"} {
			mass, pledged, e := ledger.Held(l, day, holder, grade)
			o := [2]string{holder, grade}
			expect(t, "what is held "+what, []any{mass, pledged, e}, []any{want.held[o], want.pledged[o], api.OK})
		}
	}
}

func TestAccountsAgainstDefinition(t *testing.T) {
	r := rand.New(rand.NewSource(2))
	for range 200 {
		l := randomLedger(r, 1+r.Intn(40))
		last := l[len(l)-1].Day
		for _, day := range []int{0, last / 3, last / 2, max(0, last-1), last, last + 1, api.MaxDay} {
			expectDay(t, l, day)
		}
	}
}

func TestBalance(t *testing.T) {
	l := append(exampleLedger(), entry(5, "store", "", "", "w2", 30), entry(5, "issue", "zoe", "", "w2", 20), entry(6, "cancel", "zoe", "", "w2", 20), entry(6, "store", "", "", "w3", 10))
	for _, x := range []struct {
		day            int
		masses, others []int
		e              api.Errno
	}{
		{0, nil, nil, api.OK},
		{1, []int{600}, nil, api.OK}, {1, []int{599}, nil, api.ErrBalance}, {1, nil, nil, api.ErrBalance}, {1, nil, []int{api.MaxMass}, api.ErrBalance},
		{4, []int{1000}, nil, api.OK}, {4, []int{api.MaxMass}, []int{0}, api.OK}, {4, []int{0}, nil, api.ErrBalance},
		{5, []int{1000}, []int{20}, api.OK}, {5, []int{1000}, []int{19}, api.ErrBalance}, {5, []int{1000}, nil, api.ErrBalance}, {5, []int{999}, []int{30}, api.ErrBalance},
		{6, []int{1000}, nil, api.OK}, {6, []int{1000}, []int{0}, api.OK}, {api.MaxDay, []int{999}, nil, api.ErrBalance},
	} {
		var counted []api.Account
		for _, mass := range x.others {
			counted = append(counted, api.Account{Grade: "w2", Mass: mass})
		}
		for _, mass := range x.masses {
			counted = append(counted, api.Account{Grade: "w1", Mass: mass})
		}
		expect(t, fmt.Sprint("Balance ", x.day, counted), ledger.Balance(l, x.day, counted), x.e)
	}
	var many []api.Account
	for i := range 256 {
		many = append(many, api.Account{Grade: fmt.Sprint("w", i), Mass: api.MaxMass})
	}
	expect(t, "Balance of many grades", ledger.Balance(l, 6, many), api.OK)
}

func TestBalanceAgainstDefinition(t *testing.T) {
	r := rand.New(rand.NewSource(3))
	codes := map[api.Errno]int{}
	for range 500 {
		l := randomLedger(r, 1+r.Intn(30))
		day := r.Intn(l[len(l)-1].Day + 2)
		receipts := accountsOf(until(l, day)).receipts
		var counted []api.Account
		want := api.OK
		for _, grade := range []string{"w2", "w1"} {
			mass := max(0, receipts[grade]+r.Intn(5)-1)
			if isCounted := r.Intn(4) > 0; isCounted {
				counted = append(counted, api.Account{Grade: grade, Mass: mass})
			} else {
				mass = 0
			}
			if mass < receipts[grade] {
				want = api.ErrBalance
			}
		}
		codes[want]++
		expect(t, fmt.Sprint("Balance ", l, day, counted), ledger.Balance(l, day, counted), want)
	}
	if codes[api.OK] < 50 || codes[api.ErrBalance] < 50 {
		t.Errorf("the results are %v", codes)
	}
}

func TestHistories(t *testing.T) {
	l := []api.Entry{
		entry(0, "store", "", "", "w1", 100), entry(0, "issue", "ann", "", "w1", 10), entry(0, "issue", "ann", "", "w1", 5),
		entry(2, "store", "", "", "w2", 100), entry(2, "issue", "bob", "", "w1", 7), entry(2, "transfer", "bob", "ann", "w1", 7),
		entry(3, "cancel", "ann", "", "w1", 22), entry(3, "issue", "ann", "", "w2", 50), entry(3, "issue", "ann", "", "w1", 22),
		entry(5, "pledge", "ann", "bank", "w1", 20), entry(6, "cancel", "ann", "", "w1", 2), entry(6, "issue", "ann", "", "w1", 1), entry(6, "issue", "bob", "", "w2", 1),
		entry(7, "release", "ann", "bank", "w1", 20), entry(7, "cancel", "ann", "", "w1", 21), entry(api.MaxDay, "transfer", "ann", "bob", "w2", 50),
	}
	expectCheck(t, l, len(l), api.OK)
	for _, x := range []struct {
		holder, grade string
		steps         []api.Step
	}{
		{"ann", "w1", []api.Step{step(0, 15), step(2, 22), step(6, 21), step(7, 0)}},
		{"ann", "w2", []api.Step{step(3, 50), step(api.MaxDay, 0)}},
		{"bob", "w1", nil},
		{"bob", "w2", []api.Step{step(6, 1), step(api.MaxDay, 51)}},
		{"bank", "w1", nil},
		{"ann", "w3", nil},
		{"zoe", "w1", nil},
	} {
		expectList(t, "History of "+x.holder+" and "+x.grade, ok[[]api.Step](t, "History")(ledger.History(l, x.holder, x.grade)), x.steps)
	}
}

func TestHistoriesAgainstDefinition(t *testing.T) {
	r := rand.New(rand.NewSource(4))
	for range 200 {
		l := randomLedger(r, 1+r.Intn(30))
		for _, holder := range []string{"ann", "bob", "zoe"} {
			for _, grade := range []string{"w1", "w2"} {
				h := ok[[]api.Step](t, "History")(ledger.History(l, holder, grade))
				expectList(t, fmt.Sprint("History ", l, holder, grade), h, historyOf(l, holder, grade, l[len(l)-1].Day))
				expect(t, "CheckSteps of a history", ledger.CheckSteps(h), api.OK)
			}
		}
	}
}
