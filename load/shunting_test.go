package load_test

import (
	"fmt"
	"math/rand"
	"slices"
	"testing"

	"bushel/api"
	"bushel/load"
)

// P8.7: shunting with the least number of moves.

func TestErrorsOfShunting(t *testing.T) {
	// Many cars on many tracks have too many arrangements, whether or not one of them is wanted that moves lead to.
	many := func(a *args) {
		a.yard = api.Yard{Room: slices.Repeat([]int{7}, 3), Tracks: [][]int{{1, 2, 3}, {4, 5, 6, 7}, nil}}
		if len(slices.Concat(a.wanted...)) == 3 {
			a.wanted = a.yard.Tracks
		}
	}
	full := fault{"a track with too many cars", api.ErrFull, func(a *args) {
		a.yard.Room, a.wanted = []int{3, 2, 3}, [][]int{nil, {1, 2, 3}, nil}
	}}
	none := fault{"a single track with room", api.ErrNone, func(a *args) { a.yard.Room = []int{3, 0, 0} }}
	for _, name := range []string{"Distance", "Shunt"} {
		expectErrors(t, name, slices.Concat(yardFaults(), wantedFaults(), []fault{full, none})...)
		expectErrors(t, name, fault{"too many arrangements", api.ErrLimit, many})
	}
	expectErrors(t, "Rings", append(yardFaults(), fault{"too many arrangements", api.ErrLimit, many})...)
	// The errors of what is wanted come before the limit.
	for what, x := range map[string]struct {
		wanted [][]int
		e      api.Errno
	}{
		"no tracks": {nil, api.ErrShape}, "another car": {[][]int{{8}, nil, nil}, api.ErrUnknown}, "a car twice": {[][]int{{1, 1}, nil, nil}, api.ErrTwice},
		"missing cars": {[][]int{{1}, nil, nil}, api.ErrShape}, "too many cars on a track": {[][]int{{1, 2, 3, 4, 5, 6}, {7}, nil}, api.ErrFull},
	} {
		a := args{yard: api.Yard{Room: []int{5, 4, 3}, Tracks: [][]int{{1, 2, 3}, {4, 5, 6, 7}, nil}}, wanted: x.wanted}
		for _, name := range []string{"Distance", "Shunt"} {
			expectError(t, name+" of "+what, name, a, x.e)
		}
	}
}

// expectShunted checks that moves lead to an arrangement, as many as the distance.
func expectShunted(t *testing.T, y api.Yard, wanted [][]int, distance int) {
	t.Helper()
	what := fmt.Sprint(y, wanted)
	expect(t, "Distance "+what, ok[int](t, what)(load.Distance(y, wanted)), distance)
	l := ok[[]api.Move](t, what)(load.Shunt(y, wanted))
	expect(t, "the number of moves "+what, len(l), distance)
	for i, m := range l {
		if !slices.Contains(movesOf(y), m) {
			t.Fatalf("%s: the move %d of %v is not possible", what, i, l)
		}
		y = behind(y, m)
	}
	expectTracks(t, "the tracks behind the moves "+what, y.Tracks, wanted)
}

func TestExamplesOfShunting(t *testing.T) {
	y := exampleYard()
	expectShunted(t, y, [][]int{{1, 2, 3}, nil, nil}, 0)
	expectShunted(t, y, [][]int{nil, {1, 2, 3}, nil}, 1)
	expectShunted(t, y, [][]int{{2, 1, 3}, nil, nil}, 4)
	expectShunted(t, y, [][]int{{1}, {2}, {3}}, 2)
	rings := ok[[]int](t, "Rings")(load.Rings(y))
	expectList(t, "Rings", rings, []int{1, 6, 18, 27, 8})
	none := api.Yard{Room: []int{0, 4}, Tracks: [][]int{nil, nil}}
	expectShunted(t, none, [][]int{nil, nil}, 0)
	expectList(t, "Rings of no cars", ok[[]int](t, "Rings")(load.Rings(none)), []int{1})
	alone := api.Yard{Room: []int{8}, Tracks: [][]int{{1, 2, 3, 4, 5, 6, 7, 8}}}
	expectShunted(t, alone, alone.Tracks, 0)
	expectList(t, "Rings of one track", ok[[]int](t, "Rings")(load.Rings(alone)), []int{1})
}

func TestShuntingByDefinition(t *testing.T) {
	r := rand.New(rand.NewSource(12))
	found, lost := 0, 0
	for i := range 150 {
		y := randomYard(r, []int{3, 5}[i%2], []int{5, 3}[i%2])
		cars := slices.Concat(y.Tracks...)
		all := allArrangements(cars, len(y.Tracks))
		if len(all) > 3000 {
			continue
		}
		least := distances(y)
		counts := make([]int, len(least))
		for _, distance := range least {
			counts[distance]++
		}
		want := counts[:slices.Index(append(counts, 0), 0)]
		expectList(t, fmt.Sprint("Rings ", y), ok[[]int](t, "Rings")(load.Rings(y)), want)
		for range 10 {
			wanted := all[r.Intn(len(all))]
			distance, isFound := least[textOf(wanted)]
			a := args{yard: y, wanted: wanted}
			switch {
			case isFound:
				found++
				expectShunted(t, y, wanted, distance)
			case fits(y, wanted):
				lost++
				expectError(t, fmt.Sprint("Distance ", y, wanted), "Distance", a, api.ErrNone)
				expectError(t, fmt.Sprint("Shunt ", y, wanted), "Shunt", a, api.ErrNone)
			default:
				expectError(t, fmt.Sprint("Distance ", y, wanted), "Distance", a, api.ErrFull)
				expectError(t, fmt.Sprint("Shunt ", y, wanted), "Shunt", a, api.ErrFull)
			}
		}
	}
	if found < 200 || lost < 50 {
		t.Errorf("%d arrangements were found, and %d were not", found, lost)
	}
}

// fits reports whether all tracks keep to their rooms.
func fits(y api.Yard, wanted [][]int) bool {
	for i, track := range wanted {
		if len(track) > y.Room[i] {
			return false
		}
	}
	return true
}

// TestNumberOfArrangements checks the limit of the search with all numbers of tracks and cars.
func TestNumberOfArrangements(t *testing.T) {
	for tracks := 1; tracks <= api.MaxTracks; tracks++ {
		for cars := range api.MaxCars + 1 {
			y := api.Yard{Room: slices.Repeat([]int{8}, tracks), Tracks: make([][]int, tracks)}
			for car := range cars {
				y.Tracks[0] = append(y.Tracks[0], car+1)
			}
			want := api.OK
			if ok[int](t, "Arrangements")(load.Arrangements(y)) > api.MaxStates {
				want = api.ErrLimit
			}
			distance, e := load.Distance(y, y.Tracks)
			expect(t, fmt.Sprint("Distance ", y), []any{distance, e}, []any{0, want})
			moves, e := load.Shunt(y, y.Tracks)
			expect(t, fmt.Sprint("Shunt ", y), []any{len(moves), e}, []any{0, want})
			if want == api.ErrLimit {
				expectError(t, fmt.Sprint("Rings ", y), "Rings", args{yard: y}, api.ErrLimit)
				continue
			}
			rings, e := load.Rings(y)
			expect(t, fmt.Sprint("the error of Rings ", y), e, api.OK)
			// With three tracks, and room for all cars, moves lead to all arrangements.
			if tracks > 2 {
				sum := 0
				for _, n := range rings {
					sum += n
				}
				expect(t, fmt.Sprint("the sum of Rings ", y), sum, ok[int](t, "Arrangements")(load.Arrangements(y)))
			}
		}
	}
}

func TestTwoTracks(t *testing.T) {
	// A move keeps the order of its cars; one after another they change it.
	y := api.Yard{Room: []int{7, 7}, Tracks: [][]int{{1, 2, 3, 4}, {5, 6, 7}}}
	expectShunted(t, y, [][]int{{1, 2, 3, 4, 7}, {5, 6}}, 1)
	expectShunted(t, y, [][]int{nil, {5, 6, 7, 1, 2, 3, 4}}, 1)
	expectShunted(t, y, [][]int{nil, {5, 6, 7, 4, 3, 2, 1}}, 4)
	expectShunted(t, y, [][]int{{1, 2, 4, 3}, {5, 6, 7}}, 3)
	y.Room = []int{4, 3}
	expectError(t, "no room", "Shunt", args{yard: y, wanted: [][]int{{1, 2, 4, 3}, {5, 6, 7}}}, api.ErrNone)
	expectList(t, "Rings without room", ok[[]int](t, "Rings")(load.Rings(y)), []int{1})
	y.Room = []int{4, 4}
	expectError(t, "little room", "Shunt", args{yard: y, wanted: [][]int{{1, 2, 4, 3}, {5, 6, 7}}}, api.ErrNone)
	expectList(t, "Rings with little room", ok[[]int](t, "Rings")(load.Rings(y)), []int{1, 1})
}
