package dry_test

import (
	"fmt"
	"math/big"
	"math/rand"
	"slices"
	"strings"
	"testing"

	"bushel/api"
	"bushel/dry"
)

// P6.5: aeration.

// aerated has the arguments of the functions of aeration, with the climate of the examples.
type aerated struct {
	pattern string
	speed   api.Span
	depth   api.Rat
}

// front, through and zones call the functions of aeration.
func (a aerated) front(t *testing.T) []api.Span {
	t.Helper()
	return ok[[]api.Span](t, fmt.Sprint("Front ", a))(dry.Front(weather(a.pattern), exampleClimate(), a.speed, a.depth))
}

func (a aerated) through(t *testing.T) [2]int {
	t.Helper()
	may, surely, e := dry.Through(weather(a.pattern), exampleClimate(), a.speed, a.depth)
	expect(t, fmt.Sprint("Through ", a), e, api.OK)
	return [2]int{may, surely}
}

func (a aerated) zones(t *testing.T) []api.Zone {
	t.Helper()
	return ok[[]api.Zone](t, fmt.Sprint("Zones ", a))(dry.Zones(weather(a.pattern), exampleClimate(), a.speed, a.depth))
}

// spans returns spans whose ends come one after another.
func spans(ends ...api.Rat) []api.Span {
	var l []api.Span
	for pair := range slices.Chunk(ends, 2) {
		l = append(l, span(pair[0], pair[1]))
	}
	return l
}

func TestFront(t *testing.T) {
	for _, row := range []struct {
		a    aerated
		want []api.Span
	}{
		{aerated{"gbgg", span("1", "2"), "5"}, spans("1", "2", "1", "2", "2", "4", "3", "5")},
		{aerated{"", span("1", "2"), "5"}, nil},
		{aerated{"bbg", span("1/3", "1/2"), "1"}, spans("0", "0", "0", "0", "1/3", "1/2")},
		{aerated{"ggg", span("0", "3"), "2"}, spans("0", "2", "0", "2", "0", "2")},
		{aerated{"gg", span("0", "0"), "2"}, spans("0", "0", "0", "0")},
		{aerated{"ggb", span("7", "7"), "13/2"}, spans("13/2", "13/2", "13/2", "13/2", "13/2", "13/2")},
		{aerated{"gg", span("1", "1"), "2"}, spans("1", "1", "2", "2")},
		{aerated{"gg", span("1/"+nines(600), nines(600)), "1/" + nines(600)}, spans("1/"+nines(600), "1/"+nines(600), "1/"+nines(600), "1/"+nines(600))},
	} {
		expectList(t, fmt.Sprint("Front ", row.a), row.a.front(t), row.want)
	}
}

func TestThrough(t *testing.T) {
	for _, row := range []struct {
		a    aerated
		want [2]int
	}{
		{aerated{"gbgg", span("1", "2"), "5"}, [2]int{3, -1}}, {aerated{"", span("1", "2"), "5"}, [2]int{-1, -1}}, {aerated{"bb", span("9", "9"), "5"}, [2]int{-1, -1}},
		{aerated{"g", span("9", "9"), "5"}, [2]int{0, 0}}, {aerated{"bgbbg", span("3", "5"), "5"}, [2]int{1, 4}}, {aerated{"ggggg", span("0", "5"), "5"}, [2]int{0, -1}},
		{aerated{"ggggg", span("1", "1"), "5"}, [2]int{4, 4}}, {aerated{"ggggg", span("1", "1"), "5001/1000"}, [2]int{-1, -1}}, {aerated{"ggggg", span("0", "0"), "1/9"}, [2]int{-1, -1}},
		{aerated{"gggbg", span("1", "1"), "3"}, [2]int{2, 2}}, {aerated{"ggggg", span("1", "2"), "3"}, [2]int{1, 2}},
	} {
		expect(t, fmt.Sprint("Through ", row.a), row.a.through(t), row.want)
	}
}

// zone returns a zone.
func zone(kind string, ends ...api.Rat) api.Zone {
	l := spans(ends...)
	return api.Zone{Kind: kind, Bottom: l[0], Top: l[1]}
}

func TestZones(t *testing.T) {
	for _, row := range []struct {
		a    aerated
		want []api.Zone
	}{
		{aerated{"gbgg", span("1", "2"), "5"}, []api.Zone{zone("good", "0", "0", "2", "4"), zone("bad", "2", "4", "3", "5"), zone("good", "3", "5", "4", "5"), zone("old", "4", "5", "5", "5")}},
		{aerated{"", span("1", "2"), "5"}, []api.Zone{zone("old", "0", "0", "5", "5")}},
		{aerated{"bb", span("1/2", "3/2"), "5"}, []api.Zone{zone("bad", "0", "0", "1", "3"), zone("old", "1", "3", "5", "5")}},
		{aerated{"ggggg", span("1", "2"), "5"}, []api.Zone{zone("good", "0", "0", "5", "5")}},
		{aerated{"bggggg", span("1", "2"), "5"}, []api.Zone{zone("good", "0", "0", "5", "5")}},
		{aerated{"bgggg", span("1", "2"), "5"}, []api.Zone{zone("good", "0", "0", "4", "5"), zone("bad", "4", "5", "5", "5")}},
		{aerated{"gbbbbb", span("1", "1"), "5"}, []api.Zone{zone("bad", "0", "0", "5", "5")}},
		{aerated{"gb", span("9", "9"), "5"}, []api.Zone{zone("bad", "0", "0", "5", "5")}},
		// A thickness of 0 is one, too: only zones at the depth are left out.
		{aerated{"gb", span("0", "0"), "5"}, []api.Zone{zone("bad", "0", "0", "0", "0"), zone("good", "0", "0", "0", "0"), zone("old", "0", "0", "5", "5")}},
		{aerated{"gb", span("0", "9"), "5"}, []api.Zone{zone("bad", "0", "0", "0", "5"), zone("good", "0", "5", "0", "5"), zone("old", "0", "5", "5", "5")}},
	} {
		expectList(t, fmt.Sprint("Zones ", row.a), row.a.zones(t), row.want)
	}
}

func TestErrorsOfAeration(t *testing.T) {
	for _, name := range []string{"Front", "Through", "Zones"} {
		expectErrors(t, name, append(weatherFaults(),
			fault{"a speed that is no span", api.ErrForm, func(a *args) { a.speed = span("-1", "?") }},
		)...)
		expectErrors(t, name,
			fault{"Low above High", api.ErrOrder, func(a *args) { a.speed = span("-1", "-2") }},
			fault{"no depth", api.ErrForm, func(a *args) { a.depth = "" }},
		)
		for _, low := range []api.Rat{"-1", "-1/1000", "-" + nines(600)} {
			expectErrors(t, name,
				fault{"a speed below 0", api.ErrRange, func(a *args) { a.speed.Low = low }},
				fault{"no depth", api.ErrForm, func(a *args) { a.depth = "" }},
			)
		}
		for _, depth := range []api.Rat{"0", "-1", "-1/1000", "-" + nines(600)} {
			expectErrors(t, name, fault{"a depth of " + string(depth), api.ErrRange, func(a *args) { a.depth = depth }})
		}
		expectNumberErrors(t, func(a *args) *api.Rat { return &a.speed.Low }, name)
		expectNumberErrors(t, func(a *args) *api.Rat { return &a.speed.High }, name)
		expectNumberErrors(t, func(a *args) *api.Rat { return &a.depth }, name)
	}
}

// TestLongPlacesOfFronts checks numbers that are too long, but not those above the depth.
func TestLongPlacesOfFronts(t *testing.T) {
	// Three times this number have a numerator with too many digits, two and ten times do not.
	long := nines(600) + "/" + power(599)
	for _, row := range []struct {
		a            aerated
		front, zones api.Errno
	}{
		{aerated{"gg", span("1", nines(600)), nines(600)}, api.OK, api.OK},
		{aerated{"gg", span("1", power(599)), nines(600)}, api.OK, api.OK},
		{aerated{"gg", span("1", long), "20"}, api.OK, api.OK},
		{aerated{"gg", span(long, long), "20"}, api.OK, api.OK},
		{aerated{"ggg", span("1", long), "20"}, api.OK, api.OK},
		{aerated{"ggg", span(long, long), "20"}, api.OK, api.OK},
		{aerated{"ggg", span("1", long), "30"}, api.ErrLarge, api.ErrLarge},
		{aerated{"ggg", span(long, "10"), "30"}, api.ErrLarge, api.ErrLarge},
		{aerated{"gbg", span(long, "10"), "30"}, api.OK, api.ErrLarge},
		// Zones has only the places behind all hours.
		{aerated{"gggggggggg", span("1", long), "100"}, api.ErrLarge, api.OK},
		// The bottom of what was old is at the depth.
		{aerated{"gggb", span(long, long), "10"}, api.OK, api.OK},
	} {
		front, e := dry.Front(weather(row.a.pattern), exampleClimate(), row.a.speed, row.a.depth)
		expect(t, fmt.Sprint("Front ", row.a), []any{e, len(front) > 0}, []any{row.front, row.front == api.OK})
		zones, e := dry.Zones(weather(row.a.pattern), exampleClimate(), row.a.speed, row.a.depth)
		expect(t, fmt.Sprint("Zones ", row.a), []any{e, len(zones) > 0}, []any{row.zones, row.zones == api.OK})
		_, _, e = dry.Through(weather(row.a.pattern), exampleClimate(), row.a.speed, row.a.depth)
		expect(t, fmt.Sprint("Through ", row.a), e, api.OK)
	}
}

// randomAerated returns random arguments with numbers of at most so many digits.
func randomAerated(r *rand.Rand, hours, digits int) aerated {
	low := randomRat(r, 3, digits)
	if r.Intn(8) == 0 {
		low = new(big.Rat)
	}
	high := add(low, randomRat(r, 2, 2))
	if r.Intn(8) == 0 {
		high = low
	}
	depth := add(randomRat(r, 3*hours, digits), big.NewRat(1, 8))
	if r.Intn(4) == 0 {
		depth = add(mul(whole(1+r.Intn(4)), high), mul(whole(r.Intn(3)), big.NewRat(1, 2)))
	}
	if depth.Sign() == 0 {
		depth = whole(1)
	}
	return aerated{randomPattern(r, hours), span(ofBig(low), ofBig(high)), ofBig(depth)}
}

// rise returns the places of a front behind each hour whose speed in each one is that of a function.
func rise(a aerated, speed func() *big.Rat) []*big.Rat {
	place := new(big.Rat)
	var l []*big.Rat
	for _, letter := range a.pattern {
		if letter == 'g' {
			place = lesser(add(place, speed()), toBig(a.depth))
		}
		l = append(l, place)
	}
	return l
}

// firstAt returns the first number of a list that is at the depth, or -1.
func firstAt(l []*big.Rat, depth api.Rat) int {
	return slices.IndexFunc(l, func(place *big.Rat) bool { return place.Cmp(toBig(depth)) == 0 })
}

func TestFrontAgainstDefinition(t *testing.T) {
	r := rand.New(rand.NewSource(51))
	through := map[bool]int{}
	for i := range 2000 {
		a := randomAerated(r, 12, []int{1, 1, 2, 30}[i%4])
		lows := rise(a, func() *big.Rat { return toBig(a.speed.Low) })
		highs := rise(a, func() *big.Rat { return toBig(a.speed.High) })
		var want []api.Span
		for i := range lows {
			want = append(want, span(ofBig(lows[i]), ofBig(highs[i])))
		}
		expectList(t, fmt.Sprint("Front ", a), a.front(t), want)
		wanted := [2]int{firstAt(highs, a.depth), firstAt(lows, a.depth)}
		expect(t, fmt.Sprint("Through ", a), a.through(t), wanted)
		through[wanted[0] != wanted[1] && wanted[1] >= 0]++
	}
	if through[true] < 50 {
		t.Errorf("only %d fronts that are surely through after they may be", through[true])
	}
}

// zonesOf returns zones by their definition, from a pile in which each hour lifts what lay before.
func zonesOf(a aerated) []api.Zone {
	kinds := map[rune]string{'g': "good", 'b': "bad"}
	type slice struct {
		kind  string
		hours int
	}
	pile := []slice{{"old", 0}}
	for _, letter := range a.pattern {
		if pile[0].kind == kinds[letter] {
			pile[0].hours++
		} else {
			pile = append([]slice{{kinds[letter], 1}}, pile...)
		}
	}
	low, high, depth := new(big.Rat), new(big.Rat), toBig(a.depth)
	ends := func() api.Span { return span(ofBig(lesser(low, depth)), ofBig(lesser(high, depth))) }
	var zones []api.Zone
	for _, s := range pile {
		z := api.Zone{Kind: s.kind, Bottom: ends()}
		for range s.hours {
			low, high = add(low, toBig(a.speed.Low)), add(high, toBig(a.speed.High))
		}
		if z.Top = ends(); s.kind == "old" {
			z.Top = span(a.depth, a.depth)
		}
		if z.Bottom.Low != a.depth {
			zones = append(zones, z)
		}
	}
	return zones
}

func TestZonesAgainstDefinition(t *testing.T) {
	r := rand.New(rand.NewSource(52))
	left := map[bool]int{}
	for i := range 2000 {
		a := randomAerated(r, 14, []int{1, 1, 2, 30}[i%4])
		want := zonesOf(a)
		expectList(t, fmt.Sprint("Zones ", a), a.zones(t), want)
		left[want[len(want)-1].Kind == "old"]++
	}
	if left[true] < 200 || left[false] < 200 {
		t.Errorf("zones with and without what was old: %v", left)
	}
}

// TestTheMostHours checks fronts and zones of a thousand hours.
func TestTheMostHours(t *testing.T) {
	a := aerated{strings.Repeat("gb", api.MaxHours/2), span("1/3", "1/2"), "1000"}
	front, zones := a.front(t), a.zones(t)
	expect(t, "the last place", []any{len(front), front[len(front)-1]}, []any{api.MaxHours, span("500/3", "250")})
	expect(t, "the last zones", []any{len(zones), zones[api.MaxHours-1], zones[api.MaxHours]}, []any{api.MaxHours + 1,
		zone("good", "333", "999/2", "1000/3", "500"), zone("old", "1000/3", "500", "1000", "1000")})
}
