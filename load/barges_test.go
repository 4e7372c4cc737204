package load_test

import (
	"fmt"
	"math"
	"math/big"
	"math/rand"
	"slices"
	"testing"

	"bushel/api"
	"bushel/load"
)

// P8.4 and P8.5: draughts of barges, and even loads.

func TestErrorsOfTables(t *testing.T) {
	mass := func(n int) func(a *args) { return func(a *args) { a.mass = n } }
	expectErrors(t, "CheckTable", tableFaults()...)
	expectErrors(t, "Draught", append(tableFaults(), []fault{
		{"a negative mass", api.ErrRange, mass(-1)},
		{"the least mass", api.ErrRange, mass(math.MinInt)},
		{"a mass behind the last one", api.ErrRange, mass(3001)},
		{"the greatest mass", api.ErrRange, mass(math.MaxInt)},
	}...)...)
	expectErrors(t, "Most", append(tableFaults(), []fault{
		{"a draught that is no number", api.ErrForm, func(a *args) { a.draught = "49.5" }},
		{"a draught that is too long", api.ErrLarge, func(a *args) { a.draught = "-" + nines(601) }},
		{"a draught below the first one", api.ErrNone, func(a *args) { a.draught = "99/2" }},
		{"a negative draught", api.ErrNone, func(a *args) { a.draught = "-" + nines(600) }},
	}...)...)
	for i := range 3 {
		expectNumberErrors(t, func(a *args) *api.Rat { return &a.table[i].X }, ofTables()...)
		expectNumberErrors(t, func(a *args) *api.Rat { return &a.table[i].Y }, ofTables()...)
	}
	expectNumberErrors(t, func(a *args) *api.Rat { return &a.draught }, "Most")
}

// table returns a table of draughts, as X and Y one after another.
func table(texts ...api.Rat) []api.Point {
	var c []api.Point
	for pair := range slices.Chunk(texts, 2) {
		c = append(c, api.Point{X: pair[0], Y: pair[1]})
	}
	return c
}

func TestCheckTable(t *testing.T) {
	for _, c := range [][]api.Point{
		exampleTable(), table("0", "0"), table("0", "5"), table("0", "1", "1/3", "1", "1/2", "1"), table("0", "0", nines(600), nines(600)), table("0", "1/2", "1", "2/3"),
	} {
		expect(t, fmt.Sprint(c), load.CheckTable(c), api.OK)
	}
	var many []api.Point
	for i := range api.MaxPoints {
		many = append(many, api.Point{X: ofBig(whole(i)), Y: "7"})
	}
	expect(t, "64 points", load.CheckTable(many), api.OK)
	expect(t, "65 points", load.CheckTable(append(many, api.Point{X: "64", Y: "7"})), api.ErrMany)
}

func TestExamplesOfDraughts(t *testing.T) {
	c := exampleTable()
	for mass, want := range map[int]api.Rat{0: "50", 1: "5001/100", 1000: "60", 2000: "80", 2999: "4999/50", 3000: "100"} {
		expect(t, fmt.Sprint("Draught of ", mass), ok[api.Rat](t, "Draught")(load.Draught(c, mass)), want)
	}
	for draught, want := range map[api.Rat]int{"50": 0, "5001/100": 1, "50009/1000": 0, "60": 1000, "65": 1250, "6501/100": 1250, "1301/20": 1252, "999/10": 2995, "100": 3000, "101": 3000, nines(600): 3000} {
		expect(t, fmt.Sprint("Most of ", draught), ok[int](t, "Most")(load.Most(c, draught)), want)
	}
}

func TestEdgesOfTables(t *testing.T) {
	one := table("0", "5")
	expect(t, "Draught of one point", ok[api.Rat](t, "Draught")(load.Draught(one, 0)), api.Rat("5"))
	expectError(t, "a mass behind one point", "Draught", args{table: one, mass: 1}, api.ErrRange)
	expect(t, "Most of one point", ok[int](t, "Most")(load.Most(one, "5")), 0)
	expectError(t, "less than one point", "Most", args{table: one, draught: "4"}, api.ErrNone)
	// The draught stays the same from 1 to 5 and from 8 on.
	flat := table("0", "1", "1", "2", "5", "2", "8", "5", "19/2", "5")
	for draught, want := range map[api.Rat]int{"1": 0, "3/2": 0, "2": 5, "5/2": 5, "3": 6, "49/10": 7, "5": 9, "6": 9} {
		expect(t, fmt.Sprint("Most of ", draught), ok[int](t, "Most")(load.Most(flat, draught)), want)
	}
	expect(t, "Draught at 9", ok[api.Rat](t, "Draught")(load.Draught(flat, 9)), api.Rat("5"))
	expectError(t, "Draught above 19/2", "Draught", args{table: flat, mass: 10}, api.ErrRange)
	// A table may reach beyond all masses.
	deep := table("0", "0", "2000000000", "2")
	expect(t, "Draught of MaxMass", ok[api.Rat](t, "Draught")(load.Draught(deep, api.MaxMass)), api.Rat("999999999/1000000000"))
	expectError(t, "a mass above MaxMass", "Draught", args{table: deep, mass: api.MaxMass + 1}, api.ErrRange)
	for draught, want := range map[api.Rat]int{"1/1000000000": 1, "99999999/100000000": 999999990, "999999999/1000000000": api.MaxMass, "1": api.MaxMass, "2": api.MaxMass, "3": api.MaxMass} {
		expect(t, fmt.Sprint("Most of ", draught), ok[int](t, "Most")(load.Most(deep, draught)), want)
	}
}

func TestDraughtsByDefinition(t *testing.T) {
	r := rand.New(rand.NewSource(7))
	for range 500 {
		c := randomTable(r, 1+r.Intn(4))
		last := toBig(c[len(c)-1].X)
		draught := randomRat(r, 0, 9, 6)
		want := -1
		for mass := 0; whole(mass).Cmp(last) <= 0; mass++ {
			y := draughtOf(c, whole(mass))
			expect(t, fmt.Sprint("Draught ", c, mass), ok[api.Rat](t, "Draught")(load.Draught(c, mass)), ofBig(y))
			if y.Cmp(draught) <= 0 {
				want = mass
			}
		}
		if want < 0 {
			expectError(t, fmt.Sprint("Most ", c, draught), "Most", args{table: c, draught: ofBig(draught)}, api.ErrNone)
			continue
		}
		expect(t, fmt.Sprint("Most ", c, draught), ok[int](t, "Most")(load.Most(c, ofBig(draught))), want)
	}
}

// TestLongDraughts checks the limit of digits: Most has a result also where the draughts themselves are too long.
func TestLongDraughts(t *testing.T) {
	c := table("0", "1/"+nines(600), "1000", power(599))
	expectError(t, "a long draught", "Draught", args{table: c, mass: 7}, api.ErrLarge)
	expect(t, "the first draught", ok[api.Rat](t, "Draught")(load.Draught(c, 0)), c[0].Y)
	expect(t, "the last draught", ok[api.Rat](t, "Draught")(load.Draught(c, 1000)), c[1].Y)
	for _, x := range []struct {
		draught api.Rat
		want    int
	}{{c[0].Y, 0}, {"7" + power(596)[1:], 6}, {"7" + power(596)[1:596] + "1", 7}, {power(598), 99}, {"1" + power(598)[1:598] + "1", 100}, {nines(599), 999}, {power(599), 1000}, {nines(600), 1000}} {
		expect(t, fmt.Sprintf("Most of %.9s", x.draught), ok[int](t, "Most")(load.Most(c, x.draught)), x.want)
	}
	exact := table("0", "0", "7", nines(600))
	y, e := result(quo(toBig(nines(600)), whole(7)))
	got, code := load.Draught(exact, 1)
	expect(t, "600 digits", []any{got, code}, []any{y, e})
	expect(t, "Most of nearly that", ok[int](t, "Most")(load.Most(exact, nines(599))), 0)
}

func TestErrorsOfSpread(t *testing.T) {
	total := func(n int) func(a *args) { return func(a *args) { a.total = n } }
	rooms := func(l ...int) func(a *args) { return func(a *args) { a.rooms = l } }
	expectErrors(t, "Spread",
		fault{"a negative total", api.ErrRange, total(-1)},
		fault{"the least total", api.ErrRange, total(math.MinInt)},
		fault{"a total that is too great", api.ErrRange, total(api.MaxMass + 1)},
		fault{"too many rooms", api.ErrMany, rooms(slices.Repeat([]int{-1}, 257)...)},
		fault{"a negative room", api.ErrRange, rooms(4, 2, -1)},
		fault{"the least room", api.ErrRange, rooms(math.MinInt, 20)},
		fault{"a room that is too great", api.ErrRange, rooms(api.MaxMass+1, -1)},
		fault{"no rooms", api.ErrFull, rooms()},
		fault{"too little room", api.ErrFull, total(21)},
		fault{"rooms without room", api.ErrFull, rooms(0, 0)},
	)
}

func TestExamplesOfSpread(t *testing.T) {
	great := slices.Repeat([]int{api.MaxMass}, api.MaxList)
	for _, x := range []struct {
		total       int
		rooms, want []int
	}{
		{10, []int{2, 9, 9}, []int{2, 4, 4}}, {11, []int{2, 9, 9}, []int{2, 5, 4}}, {20, []int{2, 9, 9}, []int{2, 9, 9}}, {19, []int{2, 9, 9}, []int{2, 9, 8}},
		{0, []int{2, 9, 9}, []int{0, 0, 0}}, {1, []int{2, 9, 9}, []int{1, 0, 0}}, {1, []int{0, 9, 9}, []int{0, 1, 0}}, {2, []int{0, 0, 9}, []int{0, 0, 2}},
		{7, []int{9, 2, 9}, []int{3, 2, 2}}, {8, []int{9, 1, 3, 9}, []int{3, 1, 2, 2}}, {9, []int{9, 1, 3, 9}, []int{3, 1, 3, 2}}, {10, []int{9, 1, 3, 9}, []int{3, 1, 3, 3}}, {11, []int{9, 1, 3, 9}, []int{4, 1, 3, 3}},
		{0, nil, nil}, {0, []int{0}, []int{0}}, {api.MaxMass, []int{api.MaxMass}, []int{api.MaxMass}}, {api.MaxMass, []int{api.MaxMass, 1}, []int{api.MaxMass - 1, 1}},
		{1000, great, append(slices.Repeat([]int{4}, 232), slices.Repeat([]int{3}, 24)...)}, {255, great, append(slices.Repeat([]int{1}, 255), 0)},
	} {
		expectList(t, fmt.Sprint("Spread ", x.total, x.rooms), ok[[]int](t, "Spread")(load.Spread(x.total, x.rooms)), x.want)
	}
}

// TestSpreadByDefinition checks that kilograms that are poured one after another, each into the first room of those with the least mass, are spread the same way.
func TestSpreadByDefinition(t *testing.T) {
	r := rand.New(rand.NewSource(8))
	for range 500 {
		var rooms, want []int
		sum := 0
		for range r.Intn(7) {
			rooms, want = append(rooms, r.Intn(12)), append(want, 0)
			sum += rooms[len(rooms)-1]
		}
		for total := range sum + 1 {
			expectList(t, fmt.Sprint("Spread ", total, rooms), ok[[]int](t, "Spread")(load.Spread(total, rooms)), want)
			least := -1
			for i, room := range rooms {
				if want[i] < room && (least < 0 || want[i] < want[least]) {
					least = i
				}
			}
			if least >= 0 {
				want = slices.Clone(want)
				want[least]++
			}
		}
		expectError(t, fmt.Sprint("Spread ", sum+1, rooms), "Spread", args{total: sum + 1, rooms: rooms}, api.ErrFull)
	}
}

// TestGreatSpread checks the definition with great masses: a level, and what is left over.
func TestGreatSpread(t *testing.T) {
	r := rand.New(rand.NewSource(9))
	for range 300 {
		var rooms []int
		sum := new(big.Int)
		for range 1 + r.Intn(api.MaxList) {
			rooms = append(rooms, r.Intn(1+r.Intn(api.MaxMass+1)))
			sum.Add(sum, big.NewInt(int64(rooms[len(rooms)-1])))
		}
		total := r.Intn(min(api.MaxMass, int(sum.Int64())) + 1)
		masses := ok[[]int](t, "Spread")(load.Spread(total, rooms))
		expect(t, "the number of masses", len(masses), len(rooms))
		// The level is the least mass in a room that is not full, or that of the last one of these.
		level, left, open := api.MaxMass, total, 0
		for i, room := range rooms {
			if masses[i] < room {
				level = min(level, masses[i])
			}
		}
		for _, room := range rooms {
			left -= min(level, room)
			if room > level {
				open++
			}
		}
		expect(t, "what is left over is less than the rooms that are not full", left >= 0 && (left < open || left == 0), true)
		for i, room := range rooms {
			want := min(level, room)
			if room > level && left > 0 {
				want++
				left--
			}
			expect(t, fmt.Sprint("a mass of ", total, rooms), masses[i], want)
		}
	}
}
