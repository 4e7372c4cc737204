package terminal_test

import (
	"fmt"
	"maps"
	"math/big"
	"math/rand"
	"slices"
	"strings"
	"testing"

	"bushel/api"
	"bushel/bin"
	"bushel/terminal"
)

// total returns a sum of numbers.
func total(l ...api.Rat) string {
	s := new(big.Rat)
	for _, a := range l {
		s.Add(s, toBig(a))
	}
	return s.RatString()
}

// tracesOf returns the traces of all shipments.
func tracesOf(t *testing.T, l []api.Event) map[string][]bin.Amount {
	t.Helper()
	s, _, _ := terminal.Replay(l)
	traces := map[string][]bin.Amount{}
	for _, x := range s.Shipments {
		traces[x.Name] = ok[[]bin.Amount](t, "Trace")(terminal.Trace(l, x.Name))
	}
	return traces
}

func TestLotsAreSomewhere(t *testing.T) {
	r := rand.New(rand.NewSource(21))
	for range 60 {
		l := randomEvents(r, 60)
		for _, x := range ok[[]terminal.Line](t, "Balance")(terminal.Balance(l)) {
			expect(t, textsOf(l)+": "+x.Lot, string(x.Arrived), total(x.Waiting, x.Stored, x.Shipped, x.Lost))
		}
	}
}

func TestTracesAddUp(t *testing.T) {
	r := rand.New(rand.NewSource(22))
	for range 60 {
		l := randomEvents(r, 60)
		s, _, _ := terminal.Replay(l)
		traces := tracesOf(t, l)
		for _, x := range s.Shipments {
			mass, _ := bin.Mass(x.Layers)
			masses := []api.Rat{"0"}
			for _, amount := range traces[x.Name] {
				masses = append(masses, amount.Mass)
			}
			expect(t, textsOf(l)+": "+x.Name, total(masses...), fmt.Sprint(mass))
		}
		for _, x := range s.Lots {
			var names []string
			for _, name := range slices.Sorted(maps.Keys(traces)) {
				if slices.ContainsFunc(traces[name], func(a bin.Amount) bool { return a.Lot == x.Name }) {
					names = append(names, name)
				}
			}
			expect(t, textsOf(l)+": "+x.Name, ok[[]string](t, "Reach")(terminal.Reach(l, x.Name)), names)
		}
	}
}

// renamed returns events in which a lot has another name everywhere.
func renamed(l []api.Event, lot, name string) []api.Event {
	l = copyOf(l)
	for _, e := range l {
		if (e.Kind == "arrive" || e.Kind == "store") && e.Names[0] == lot {
			e.Names[0] = name
		}
	}
	return l
}

func TestNamesOfLots(t *testing.T) {
	r := rand.New(rand.NewSource(23))
	for range 40 {
		l := randomEvents(r, 60)
		s, _, _ := terminal.Replay(l)
		before := tracesOf(t, l)
		for _, x := range s.Lots {
			name := []string{"0", "zz", "mm"}[r.Intn(3)]
			after := tracesOf(t, renamed(l, x.Name, name))
			var different []string
			for _, shipment := range slices.Sorted(maps.Keys(before)) {
				if written(before[shipment]) != written(after[shipment]) {
					different = append(different, shipment)
				}
				for i, a := range before[shipment] {
					if a.Lot == x.Name {
						before[shipment][i].Lot = name
					}
				}
				slices.SortFunc(before[shipment], func(a, b bin.Amount) int { return strings.Compare(a.Lot, b.Lot) })
			}
			what := textsOf(l) + ": " + x.Name
			expect(t, what, different, ok[[]string](t, "Reach")(terminal.Reach(l, x.Name)))
			expect(t, what, after, before)
			before = tracesOf(t, l)
		}
	}
}

func TestReceiptsAreCovered(t *testing.T) {
	r := rand.New(rand.NewSource(24))
	for range 40 {
		l := randomEvents(r, 80)
		for n := range len(l) + 1 {
			s, _, _ := terminal.Replay(l[:n])
			owed := map[string]int{}
			for _, x := range s.Receipts {
				owed[x.Grain] += x.Mass
			}
			for grain, mass := range owed {
				if stock := ok[int](t, "Stock")(terminal.Stock(l[:n], grain)); mass > stock {
					t.Errorf("%s: %d of %s and a stock of %d", textsOf(l[:n]), mass, grain, stock)
				}
			}
		}
	}
}

func TestOtherBinsStay(t *testing.T) {
	r := rand.New(rand.NewSource(25))
	for range 40 {
		l := randomEvents(r, 80)
		bins := map[string]string{}
		for n := range len(l) + 1 {
			s, _, _ := terminal.Replay(l[:n])
			for _, x := range s.Bins {
				if n > 0 && bins[x.Name] != written(x) && !slices.Contains(l[n-1].Names, x.Name) {
					t.Errorf("%s: %s has changed", textsOf(l[:n]), x.Name)
				}
				bins[x.Name] = written(x)
			}
		}
	}
}

func TestLogsThatAreCutOff(t *testing.T) {
	r := rand.New(rand.NewSource(26))
	for range 20 {
		l := randomEvents(r, 40)
		log := logOf(t, l)
		for length := range len(log) + 1 {
			beginning := log[:length]
			whole := strings.Count(beginning, "\n")
			events, n, e := terminal.Recover(beginning)
			want := api.OK
			if length > 0 && log[length-1] != '\n' {
				want = api.ErrTorn
			}
			expect(t, beginning, []any{events, n, e}, []any{l[:whole], strings.LastIndex(beginning, "\n") + 1, want})
			if length%7 == 0 {
				s := ok[*terminal.Session](t, "Open")(terminal.Open(beginning))
				expect(t, "Open of "+beginning, s.Events(), l[:whole])
			}
		}
	}
}
