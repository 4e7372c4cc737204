package terminal_test

import (
	"fmt"
	"math/big"
	"slices"
	"strings"
	"testing"

	"bushel/api"
	"bushel/bin"
	"bushel/terminal"
)

// expectLike checks refusals, and that the model refuses the same.
func expectLike(t *testing.T, l []api.Event, refusals ...refusal) {
	t.Helper()
	expectRefusals(t, l, refusals...)
	for _, x := range refusals {
		_, _, e := run(then(l, x.text))
		expect(t, "the model: "+x.text, e, x.e)
	}
}

// alternating returns events that store layers of red and blue in turns in the cell 0 of east.
func alternating(l []api.Event, layers, mass int) []api.Event {
	for i := range layers {
		l = then(l, fmt.Sprint("store ", []string{"red", "blue"}[i%2], " east 0 ", mass))
	}
	return l
}

func TestLimitOfLayersInACell(t *testing.T) {
	l := alternating(then(nil, "bin east mass 2 0 500 500", "arrive red wheat 500", "arrive blue wheat 500", "store blue east 1 5"), 64, 1)
	expectLike(t, l,
		refusal{"store red east 0 1", api.ErrMany},
		refusal{"store blue east 0 1", api.OK},
		refusal{"move east east 1 0 1", api.OK},
	)
	expectLike(t, then(l, "store red east 1 1"), refusal{"move east east 1 0 6", api.ErrMany}, refusal{"dry east east 1 0 6 6", api.ErrMany})
}

func TestLimitOfLayersOfAnOutflow(t *testing.T) {
	l := then(nil, "bin east funnel 2 5 500 500", "bin west mass 1 0 500 500", "arrive red wheat 500", "arrive blue wheat 500", "arrive green wheat 500", "ship oslo rye 1", "store green east 0 2")
	l = alternating(l, 63, 2)
	for _, text := range []string{"move east east 0 9 128", "dry east east 0 9 128 0", "load oslo east 0 128"} {
		expectLike(t, l, refusal{text, api.ErrMany})
	}
	expectLike(t, l, refusal{"move east west 0 0 127", api.OK}, refusal{"dry east east 0 1 127 1", api.OK})
}

func TestLimitOfLayersOfAShipment(t *testing.T) {
	l := alternating(then(nil, "bin east mass 1 0 500 500", "arrive red wheat 500", "arrive blue wheat 500", "ship oslo wheat 65", "ship riga wheat 64", "blend turku mix 500"), 64, 1)
	for _, name := range []string{"oslo", "riga", "turku"} {
		loaded := alternating(then(l, "load "+name+" east 0 64"), 2, 1)
		loaded = then(loaded, "issue ann wheat 872")
		want := map[string]api.Errno{"oslo": api.ErrMany, "riga": api.ErrFull, "turku": api.ErrMany}[name]
		expectLike(t, loaded, refusal{"load " + name + " east 0 1", want})
		expectLike(t, loaded[:len(loaded)-1], refusal{"load " + name + " east 0 1", want})
	}
	// The same lot as in the last layer is no further layer.
	expectLike(t, then(l, "load oslo east 0 64", "store blue east 0 1"), refusal{"load oslo east 0 1", api.OK})
	expectLike(t, then(l, "load oslo east 0 64", "store blue east 0 1", "issue ann wheat 936"), refusal{"load oslo east 0 1", api.ErrBalance})
}

// TestBlendsJoinLayers checks that layers of two grains become one in a blend, if they have the same shares.
func TestBlendsJoinLayers(t *testing.T) {
	l := then(nil, "bin east mass 2 0 50 50", "arrive red wheat 50", "arrive blue rye 50", "store red east 0 9", "store blue east 1 9", "blend oslo mix 30", "load oslo east 0 4", "load oslo east 1 5", "load oslo east 0 3", "load oslo east 0 1")
	s, _, e := terminal.Replay(l)
	mixed := func(lot string, mass int) api.Layer {
		return api.Layer{Grain: "mix", Mass: mass, Shares: []api.Share{{Lot: lot, Part: "1"}}}
	}
	expect(t, "a blend", e, api.OK)
	expect(t, "its layers", s.Shipments[0].Layers, []api.Layer{mixed("red", 4), mixed("blue", 5), mixed("red", 4)})
	for grain, want := range map[string]int{"wheat": 42, "rye": 45, "mix": 0} {
		expect(t, "stock of "+grain, ok[int](t, "Stock")(terminal.Stock(l, grain)), want)
	}
}

func TestLimitOfLotsInAMixture(t *testing.T) {
	l := then(nil, "bin east mass 2 0 500 500", "arrive blue wheat 500", "store blue east 0 1")
	for i := range 64 {
		l = then(l, fmt.Sprint("arrive l", i, " wheat 10"))
	}
	l = then(l, "store l0 east 0 1", "dry east east 0 1 2 2")
	for i := range 62 {
		l = then(l, fmt.Sprint("store l", i+1, " east 1 1"))
	}
	expectLike(t, l, refusal{"dry east east 1 0 64 9", api.OK})
	l = then(l, "store l63 east 1 1")
	expectLike(t, l, refusal{"dry east east 1 9 65 9", api.ErrMany}, refusal{"dry east east 1 9 64 9", api.ErrUnknown}, refusal{"move east east 1 0 65", api.OK})
	s, _, _ := terminal.Replay(then(l, "dry east east 1 0 64 9"))
	expect(t, "shares of the mixture", len(s.Bins[0].Bin.Cells[0][0].Shares), 64)
	expect(t, "lots that lost", len(s.Lost), 64)
}

// primes returns prime numbers above one million, from the first one on.
func primes(from, count int) []int {
	var l []int
	for n := 1000003; len(l) < from+count; n += 2 {
		if big.NewInt(int64(n)).ProbablyPrime(20) {
			l = append(l, n)
		}
	}
	return l[from:]
}

// work is the mass with the shares that are long numbers.
const work = 500000

// chain mixes red and blue in a bin until the part of red in the cell 0 has the product of 51 prime numbers as its denominator.
func chain(l []api.Event, silo string, primes []int) []api.Event {
	l = then(l, "bin "+silo+" funnel 2 999999999 999999999 999999999", fmt.Sprint("store red ", silo, " 0 ", work))
	for _, p := range primes {
		l = then(l,
			fmt.Sprint("store blue ", silo, " 0 ", p-work),
			fmt.Sprint("dry ", silo, " ", silo, " 0 1 ", p, " ", p),
			fmt.Sprint("move ", silo, " ", silo, " 1 0 ", work),
		)
	}
	return l
}

// part returns the part of red at the end of a chain.
func part(primes []int) *big.Rat {
	r := whole(1)
	for _, p := range primes {
		r.Mul(r, big.NewRat(work, int64(p)))
	}
	return r
}

// chains returns two chains, of which the parts together have more than 600 digits, and both parts.
func chains() ([]api.Event, *big.Rat, *big.Rat) {
	l := then(nil, "arrive red wheat 10000000", "arrive blue wheat 90000000", "ship oslo wheat 9000000", "ship riga wheat 9000000")
	first, second := primes(0, 51), primes(51, 51)
	return chain(chain(l, "east", first), "west", second), part(first), part(second)
}

func TestLongNumbersOfTraces(t *testing.T) {
	l, first, second := chains()
	for _, x := range []*big.Rat{first, second} {
		if n := len(x.Denom().String()); n < 301 || n > 600 {
			t.Fatalf("%d digits", n)
		}
	}
	red := new(big.Rat).Mul(first, whole(work))
	one := then(l, fmt.Sprint("load oslo east 0 ", work))
	expect(t, "Trace", ok[[]bin.Amount](t, "Trace")(terminal.Trace(one, "oslo"))[1], bin.Amount{Lot: "red", Mass: api.Rat(red.RatString())})
	expect(t, "Recall", ok[[]terminal.Hit](t, "Recall")(terminal.Recall(one, []string{"red"})), []terminal.Hit{{Shipment: "oslo", Mass: api.Rat(red.RatString())}})
	line := ok[[]terminal.Line](t, "Balance")(terminal.Balance(one))[1]
	expect(t, "shipped", line.Shipped, red.RatString())
	expect(t, "stored", line.Stored, new(big.Rat).Sub(whole(2*work), red).RatString())

	both := then(one, fmt.Sprint("load oslo west 0 ", work))
	_, place, e := terminal.Replay(both)
	expect(t, "Replay", []any{place, e}, []any{0, api.OK})
	amounts, e := terminal.Trace(both, "oslo")
	expect(t, "Trace of both", []any{len(amounts), e}, []any{0, api.ErrLarge})
	hits, e := terminal.Recall(both, []string{"red"})
	expect(t, "Recall of both", []any{len(hits), e}, []any{0, api.ErrLarge})
	expect(t, "Recall of all lots", ok[[]terminal.Hit](t, "Recall")(terminal.Recall(both, []string{"red", "blue"})), []terminal.Hit{{Shipment: "oslo", Mass: "1000000"}})
	expect(t, "Reach", ok[[]string](t, "Reach")(terminal.Reach(both, "red")), []string{"oslo"})
	lines, e := terminal.Balance(both)
	expect(t, "Balance of both", []any{len(lines), e}, []any{0, api.ErrLarge})

	apart := then(one, fmt.Sprint("load riga west 0 ", work))
	expect(t, "Trace of riga", ok[[]bin.Amount](t, "Trace")(terminal.Trace(apart, "riga"))[1].Mass, new(big.Rat).Mul(second, whole(work)).RatString())
	expect(t, "Recall of both ships", len(ok[[]terminal.Hit](t, "Recall")(terminal.Recall(apart, []string{"red"}))), 2)
	_, e = terminal.Balance(apart)
	expect(t, "Balance of both ships", e, api.ErrLarge)
}

func TestLongNumbersOfDrying(t *testing.T) {
	l, first, _ := chains()
	dry := func(silo, cells string, left int) string {
		return fmt.Sprint("dry ", silo, " ", silo, " ", cells, " ", work, " ", left)
	}
	l = then(l, dry("east", "0 1", work-1), "dry east east 1 0 499999 499999")
	s, place, e := terminal.Replay(l)
	expect(t, "Replay", []any{place, e}, []any{0, api.OK})
	expect(t, "lost", s.Lost[1], bin.Amount{Lot: "red", Mass: api.Rat(first.RatString())})
	stock := ok[int](t, "Stock")(terminal.Stock(l, "wheat"))
	expect(t, "stock", stock, 99999999)
	expectRefusals(t, l,
		refusal{dry("west", "0 1", work-1), api.ErrLarge},
		refusal{dry("west", "0 2", work-1), api.ErrUnknown},
		refusal{dry("west", "0 1", work), api.OK},
		refusal{"dry east east 0 1 9 8", api.OK},
	)
	expectRefusals(t, then(l, fmt.Sprint("issue ann wheat ", stock)),
		refusal{dry("west", "0 1", work-1), api.ErrLarge},
		refusal{"dry east east 0 1 9 8", api.ErrBalance},
		refusal{"dry east east 0 1 9 9", api.OK},
	)
	expectRefusals(t, then(l, fmt.Sprint("move west east 0 0 ", work)),
		refusal{fmt.Sprint("dry east west 0 9 ", work+9, " 5"), api.ErrLarge},
		refusal{fmt.Sprint("dry east west 0 9 ", work, " 5"), api.ErrUnknown},
		refusal{fmt.Sprint("move east west 0 0 ", work+9), api.OK},
	)
}

// TestRefusalsInASession checks that a session forgets what a refused event would have loaded and lost.
func TestRefusalsInASession(t *testing.T) {
	s := exampleSession(t)
	converse(t, s,
		exchange{"ship riga wheat 5", "event 11", api.OK},
		exchange{"load riga east 0 1", "event 12", api.OK},
		exchange{"load riga east 0 4", "", api.ErrBalance},
		exchange{"cancel ann wheat 50", "event 13", api.OK},
		exchange{"load riga east 0 4", "event 14", api.OK},
	)
	l, _, _ := chains()
	l = then(l, "bin north mass 2 0 50 50", "store red north 0 10", "store blue north 0 10", "dry north north 0 1 20 18")
	s = ok[*terminal.Session](t, "Open")(terminal.Open(logOf(t, l)))
	n := len(l)
	converse(t, s,
		exchange{"issue ann wheat 99999998", fmt.Sprint("event ", n+1), api.OK},
		exchange{"dry east east 0 1 9 8", "", api.ErrBalance},
		exchange{"cancel ann wheat 9", fmt.Sprint("event ", n+2), api.OK},
		exchange{"dry west west 0 1 9 8", fmt.Sprint("event ", n+3), api.OK},
		exchange{"dry east east 0 1 9 8", "", api.ErrLarge},
	)
}

// TestLongestLog checks 1000 events with names and masses that are as long as can be.
func TestLongestLog(t *testing.T) {
	name := func(i int) string { return fmt.Sprintf("%s%04d", strings.Repeat("x", 20), i) }
	s := terminal.New()
	grain := strings.Repeat("W", 24)
	for i := range 1000 {
		answer, e := s.Do("arrive " + name(i) + " " + grain + " 999999999")
		expect(t, "an answer", []any{answer, e}, []any{fmt.Sprint("event ", i+1), api.OK})
	}
	answer, e := s.Do("arrive red wheat 5")
	expect(t, "the event 1001", []any{answer, e}, []any{"", api.ErrMany})
	_, e = s.Do("arrive r/ed wheat 5")
	expect(t, "the event 1001 with a bad name", e, api.ErrMany)
	_, e = s.Do("arrive red wheat x")
	expect(t, "the event 1001 with a bad mass", e, api.ErrSyntax)
	log := s.Log()
	events, length, e := terminal.Recover(log)
	expect(t, "Recover", []any{len(events), length, e}, []any{1000, len(log), api.OK})
	stock, e := s.Do("stock " + grain)
	expect(t, "the stock", []any{stock, e}, []any{"999999999000", api.OK})
	longer, e := terminal.Append(log, events[999])
	expect(t, "Append", []any{longer, e}, []any{"", api.ErrMany})
	_, e = terminal.Append(log, api.Event{Number: 1001})
	expect(t, "Append of a bad event", e, api.ErrRange)
	last := ok[string](t, "Encode")(terminal.Encode(events[999]))
	for _, x := range []struct {
		behind string
		e      api.Errno
	}{{last + "\n", api.ErrMany}, {last, api.ErrTorn}, {last + "0\n" + last + "\n", api.ErrSum}, {"\n", api.ErrSyntax}, {last + "\nx\n", api.ErrMany}} {
		events, length, e := terminal.Recover(log + x.behind)
		expect(t, "Recover with more", []any{len(events), length, e}, []any{1000, len(log), x.e})
	}
	copied := slices.Clone(events)
	copied[0].Number = 2
	_, place, e := terminal.Replay(copied)
	expect(t, "Replay", []any{place, e}, []any{1, api.ErrOrder})
}
