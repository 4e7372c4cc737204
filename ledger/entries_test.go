package ledger_test

import (
	"fmt"
	"math/rand"
	"slices"
	"testing"

	"bushel/api"
	"bushel/ledger"
)

// P9.1: entries, one by one and one behind the other.

// expectCheck checks how many entries are accepted, and the error of the next one.
func expectCheck(t *testing.T, l []api.Entry, count int, e api.Errno) {
	t.Helper()
	n, got := ledger.Check(l)
	expect(t, fmt.Sprint("Check of ", l), []any{n, got}, []any{count, e})
}

// TestExamplesOfEntries checks the first example of the chapter.
func TestExamplesOfEntries(t *testing.T) {
	l := exampleLedger()
	expectCheck(t, nil, 0, api.OK)
	expectCheck(t, []api.Entry{l[0], l[1], entry(2, "issue", "bob", "", "w1", 500)}, 2, api.ErrBalance)
	expectCheck(t, l[:3], 3, api.OK)
	expectCheck(t, append(l[:3:3], entry(3, "ship", "", "", "w1", 1)), 3, api.ErrBalance)
	expectCheck(t, append(l[:4:4], entry(4, "transfer", "ann", "bob", "w1", 200)), 4, api.ErrEmpty)
	expectCheck(t, l, 5, api.OK)
	mass, pledged, e := ledger.Held(l, 4, "ann", "w1")
	expect(t, "ann", []any{mass, pledged, e}, []any{500, 500, api.OK})
	mass, pledged, e = ledger.Held(l, 4, "bob", "w1")
	expect(t, "bob", []any{mass, pledged, e}, []any{500, 0, api.OK})
}

func TestFieldsOfKinds(t *testing.T) {
	for _, kind := range []string{"store", "ship", "issue", "cancel", "transfer", "pledge", "release", "return", ""} {
		for _, holder := range []string{"", "ann", "a b", "bank"} {
			for _, other := range []string{"", "bank", "a b"} {
				for _, grade := range []string{"", "w1", "w 1"} {
					for _, mass := range []int{0, 1, api.MaxMass, api.MaxMass + 1} {
						for _, day := range []int{-1, 0, api.MaxDay, api.MaxDay + 1} {
							e := entry(day, kind, holder, other, grade, mass)
							expect(t, fmt.Sprint("CheckEntry of ", e), ledger.CheckEntry(e), entryError(e))
						}
					}
				}
			}
		}
	}
}

func TestRefusals(t *testing.T) {
	before := append(exampleLedger(), entry(4, "store", "", "", "w1", 50), entry(4, "store", "", "", "w2", 7), entry(4, "pledge", "bob", "bank", "w1", 300), entry(4, "pledge", "bob", "ann", "w1", 100))
	// ann has 500 of w1, all pledged to bank; bob has 500, of which 300 are pledged to bank and 100 to ann; there are 1050 of w1 and 7 of w2.
	for _, x := range []struct {
		kind, holder, other, grade string
		mass                       int
		e                          api.Errno
	}{
		{"store", "", "", "w1", api.MaxMass - 1050, api.OK},
		{"store", "", "", "w1", api.MaxMass - 1049, api.ErrFull},
		{"store", "", "", "w3", api.MaxMass, api.OK},
		{"store", "", "", "w2", api.MaxMass, api.ErrFull},
		{"ship", "", "", "w1", 50, api.OK},
		{"ship", "", "", "w1", 51, api.ErrBalance},
		{"ship", "", "", "w1", 1050, api.ErrBalance},
		{"ship", "", "", "w1", 1051, api.ErrEmpty},
		{"ship", "", "", "w2", 7, api.OK},
		{"ship", "", "", "w2", 8, api.ErrEmpty},
		{"ship", "", "", "w3", 1, api.ErrEmpty},
		{"issue", "ann", "", "w1", 50, api.OK},
		{"issue", "zoe", "", "w1", 51, api.ErrBalance},
		{"issue", "zoe", "", "w2", 7, api.OK},
		{"issue", "zoe", "", "w2", 8, api.ErrBalance},
		{"issue", "zoe", "", "w3", 1, api.ErrBalance},
		{"issue", "zoe", "", "w1", api.MaxMass, api.ErrBalance},
		{"cancel", "ann", "", "w1", 1, api.ErrEmpty},
		{"cancel", "bob", "", "w1", 100, api.OK},
		{"cancel", "bob", "", "w1", 101, api.ErrEmpty},
		{"cancel", "bob", "", "w2", 1, api.ErrEmpty},
		{"cancel", "zoe", "", "w1", 1, api.ErrEmpty},
		{"transfer", "bob", "ann", "w1", 100, api.OK},
		{"transfer", "bob", "ann", "w1", 101, api.ErrEmpty},
		{"transfer", "ann", "bob", "w1", 1, api.ErrEmpty},
		{"transfer", "bob", "ann", "w2", 1, api.ErrEmpty},
		{"pledge", "bob", "zoe", "w1", 100, api.OK},
		{"pledge", "bob", "bank", "w1", 101, api.ErrEmpty},
		{"pledge", "ann", "bank", "w1", 1, api.ErrEmpty},
		{"release", "ann", "bank", "w1", 500, api.OK},
		{"release", "ann", "bank", "w1", 501, api.ErrEmpty},
		{"release", "bob", "bank", "w1", 300, api.OK},
		{"release", "bob", "bank", "w1", 301, api.ErrEmpty},
		{"release", "bob", "ann", "w1", 100, api.OK},
		{"release", "bob", "ann", "w1", 101, api.ErrEmpty},
		{"release", "bob", "zoe", "w1", 1, api.ErrEmpty},
		{"release", "bank", "bob", "w1", 1, api.ErrEmpty},
		{"release", "bob", "bank", "w2", 1, api.ErrEmpty},
	} {
		count := len(before)
		if x.e == api.OK {
			count++
		}
		e := entry(5, x.kind, x.holder, x.other, x.grade, x.mass)
		expectCheck(t, append(before[:len(before):len(before)], e), count, x.e)
		expect(t, fmt.Sprint("the definition of ", e), refusal(before, e), x.e)
	}
}

func TestEffectsBehindOthers(t *testing.T) {
	l := append(exampleLedger(),
		entry(5, "release", "ann", "bank", "w1", 200), entry(5, "cancel", "ann", "", "w1", 150), entry(6, "ship", "", "", "w1", 150),
		entry(6, "transfer", "ann", "zoe", "w1", 50), entry(6, "pledge", "zoe", "bank", "w1", 50),
	)
	expectCheck(t, l, 10, api.OK)
	expectCheck(t, append(l[:10:10], entry(6, "ship", "", "", "w1", 1)), 10, api.ErrBalance)
	expectCheck(t, append(l[:10:10], entry(6, "cancel", "ann", "", "w1", 1)), 10, api.ErrEmpty)
	expectCheck(t, append(l[:10:10], entry(6, "cancel", "zoe", "", "w1", 1)), 10, api.ErrEmpty)
	expectCheck(t, append(l[:10:10], entry(6, "cancel", "bob", "", "w1", 500), entry(6, "ship", "", "", "w1", 500)), 12, api.OK)
	expectCheck(t, append(l[:10:10], entry(6, "store", "", "", "w1", api.MaxMass-850), entry(7, "store", "", "", "w1", 1)), 11, api.ErrFull)
}

func TestManyEntriesAndDays(t *testing.T) {
	all := slices.Repeat([]api.Entry{entry(7, "store", "", "", "w1", 1)}, 1001)
	expectCheck(t, all[:1000], 1000, api.OK)
	expectCheck(t, all, 0, api.ErrMany)
	all[1000] = api.Entry{}
	expectCheck(t, all, 0, api.ErrMany)
	first, last := entry(0, "store", "", "", "w1", 1), entry(api.MaxDay, "store", "", "", "w1", 1)
	expectCheck(t, []api.Entry{first, first, last, last}, 4, api.OK)
	expectCheck(t, []api.Entry{last, first}, 1, api.ErrDay)
	expectCheck(t, []api.Entry{entry(5, "store", "", "", "w1", 1), entry(4, "ship", "", "", "w1", 2)}, 1, api.ErrDay)
	expectCheck(t, []api.Entry{entry(-1, "store", "", "", "w1", 1), first}, 0, api.ErrDay)
}

// TestCheckAgainstDefinition checks random entries behind each other, many of which are refused.
func TestCheckAgainstDefinition(t *testing.T) {
	r := rand.New(rand.NewSource(1))
	codes := map[api.Errno]int{}
	for range 400 {
		l := randomLedger(r, r.Intn(20))
		for range 12 {
			day := 0
			if len(l) > 0 {
				day = l[len(l)-1].Day + r.Intn(9)/8
			}
			next := append(l[:len(l):len(l)], randomEntry(r, day))
			switch r.Intn(12) {
			case 0:
				next[r.Intn(len(next))].Mass = r.Intn(3) * api.MaxMass
			case 1:
				next[r.Intn(len(next))].Day--
			case 2:
				next[r.Intn(len(next))].Holder = "ann"
			}
			count, e := ledgerError(next)
			codes[e]++
			expectCheck(t, next, count, e)
		}
	}
	for _, e := range []api.Errno{api.OK, api.ErrDay, api.ErrRange, api.ErrForm, api.ErrFull, api.ErrEmpty, api.ErrBalance} {
		if codes[e] == 0 {
			t.Errorf("no ledger had the error %d", e)
		}
	}
}
