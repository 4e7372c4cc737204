package load_test

import (
	"fmt"
	"math"
	"math/rand"
	"slices"
	"testing"

	"bushel/api"
	"bushel/load"
)

// P8.6: yards and moves.

func TestErrorsOfYards(t *testing.T) {
	move := func(l ...api.Move) func(a *args) { return func(a *args) { a.moves = l } }
	first := api.Move{From: 0, To: 1, Cars: 2}
	second := func(from, to, cars int) func(a *args) {
		return move(first, api.Move{From: from, To: to, Cars: cars}, api.Move{From: -1})
	}
	expectErrors(t, "CheckYard", yardFaults()...)
	expectErrors(t, "Arrangements", yardFaults()...)
	expectErrors(t, "Apply", append(yardFaults(), []fault{
		{"too many moves", api.ErrMany, move(make([]api.Move, 257)...)},
		{"a negative From", api.ErrUnknown, second(-1, -1, 0)},
		{"a From that is not there", api.ErrUnknown, second(3, 3, 0)},
		{"the greatest From", api.ErrUnknown, second(math.MaxInt, 0, 1)},
		{"a negative To", api.ErrUnknown, second(0, -1, 0)},
		{"a To that is not there", api.ErrUnknown, second(0, 3, 0)},
		{"the least To", api.ErrUnknown, second(0, math.MinInt, 1)},
		{"the same track", api.ErrTwice, second(1, 1, 0)},
		{"the same empty track", api.ErrTwice, second(2, 2, 9)},
		{"no cars", api.ErrRange, second(2, 1, 0)},
		{"fewer than none", api.ErrRange, second(2, 1, math.MinInt)},
		{"an empty track", api.ErrEmpty, second(2, 1, 1)},
		{"too few cars", api.ErrEmpty, second(0, 1, 2)},
		{"the most cars", api.ErrEmpty, second(0, 1, math.MaxInt)},
		{"no room", api.ErrFull, func(a *args) { a.yard.Room, a.moves = []int{3, 2, 3}, []api.Move{first, {From: 0, To: 1, Cars: 1}} }},
	}...)...)
}

func TestCheckYard(t *testing.T) {
	for _, y := range []api.Yard{
		exampleYard(),
		{Room: []int{0}, Tracks: [][]int{nil}},
		{Room: []int{8}, Tracks: [][]int{{1, 2, 3, 4, 5, 6, 7, 8}}},
		{Room: []int{0, 1, 2, 3, 4, 8}, Tracks: [][]int{{}, {api.MaxNumber}, {1, 7}, {4, 5, 6}, {9}, {8}}},
	} {
		expect(t, fmt.Sprint(y), load.CheckYard(y), api.OK)
	}
}

func TestExamplesOfArrangements(t *testing.T) {
	expect(t, "Arrangements", ok[int](t, "Arrangements")(load.Arrangements(exampleYard())), 60)
	most := api.Yard{Room: slices.Repeat([]int{8}, 6), Tracks: [][]int{{1, 2, 3, 4, 5, 6, 7, 8}, nil, nil, nil, nil, nil}}
	expect(t, "the most arrangements", ok[int](t, "Arrangements")(load.Arrangements(most)), 40320*1287)
	expect(t, "of no cars", ok[int](t, "Arrangements")(load.Arrangements(api.Yard{Room: []int{0, 0}, Tracks: [][]int{nil, nil}})), 1)
}

// sums returns the number of ways to write a number as a sum of so many numbers from 0 on.
func sums(n, count int) int {
	if count == 0 {
		if n == 0 {
			return 1
		}
		return 0
	}
	ways := 0
	for first := range n + 1 {
		ways += sums(n-first, count-1)
	}
	return ways
}

func TestArrangementsByDefinition(t *testing.T) {
	r := rand.New(rand.NewSource(10))
	for tracks := 1; tracks <= api.MaxTracks; tracks++ {
		for cars := range api.MaxCars + 1 {
			y := api.Yard{Room: slices.Repeat([]int{8}, tracks), Tracks: make([][]int, tracks)}
			want := sums(cars, tracks)
			for car := range cars {
				i := r.Intn(tracks)
				y.Tracks[i] = append(y.Tracks[i], car+1)
				want *= car + 1
			}
			// Rooms do not matter.
			for i := range y.Room {
				y.Room[i] = len(y.Tracks[i])
			}
			expect(t, fmt.Sprint("Arrangements ", y), ok[int](t, "Arrangements")(load.Arrangements(y)), want)
			if cars < 5 {
				expect(t, "all of them", len(allArrangements(slices.Concat(y.Tracks...), tracks)), want)
			}
		}
	}
}

func TestExamplesOfApply(t *testing.T) {
	y := exampleYard()
	for _, x := range []struct {
		moves []api.Move
		want  [][]int
	}{
		{nil, [][]int{{1, 2, 3}, {}, {}}},
		{[]api.Move{{From: 0, To: 1, Cars: 3}}, [][]int{{}, {1, 2, 3}, {}}},
		{[]api.Move{{From: 0, To: 1, Cars: 1}}, [][]int{{1, 2}, {3}, {}}},
		{[]api.Move{{From: 0, To: 1, Cars: 1}, {From: 0, To: 1, Cars: 2}}, [][]int{{}, {3, 1, 2}, {}}},
		{[]api.Move{{From: 0, To: 1, Cars: 1}, {From: 0, To: 2, Cars: 1}, {From: 0, To: 1, Cars: 1}}, [][]int{{}, {3, 1}, {2}}},
		{[]api.Move{{From: 0, To: 1, Cars: 3}, {From: 1, To: 0, Cars: 2}, {From: 0, To: 1, Cars: 1}, {From: 1, To: 0, Cars: 2}}, [][]int{{2, 1, 3}, {}, {}}},
	} {
		got := ok[api.Yard](t, "Apply")(load.Apply(y, x.moves))
		expectTracks(t, fmt.Sprint("Apply ", x.moves), got.Tracks, x.want)
		expect(t, "the rooms", got.Room, y.Room)
	}
	full := api.Yard{Room: []int{1, 2, 0}, Tracks: [][]int{{5}, {6, 7}, nil}}
	for _, m := range []api.Move{{From: 0, To: 1, Cars: 1}, {From: 1, To: 0, Cars: 1}, {From: 0, To: 2, Cars: 1}} {
		expectError(t, "no room", "Apply", args{yard: full, moves: []api.Move{m}}, api.ErrFull)
	}
}

// randomMoves returns moves in a yard that are possible, one after another.
func randomMoves(r *rand.Rand, y api.Yard, most int) ([]api.Move, api.Yard) {
	var l []api.Move
	for range r.Intn(most + 1) {
		if all := movesOf(y); len(all) > 0 {
			m := all[r.Intn(len(all))]
			l, y = append(l, m), behind(y, m)
		}
	}
	return l, y
}

func TestApplyByDefinition(t *testing.T) {
	r := rand.New(rand.NewSource(11))
	for range 500 {
		y := randomYard(r, 6, 6)
		l, want := randomMoves(r, y, 9)
		got := ok[api.Yard](t, fmt.Sprint("Apply ", y, l))(load.Apply(y, l))
		expectTracks(t, fmt.Sprint("Apply ", y, l), got.Tracks, want.Tracks)
		expect(t, "the rooms", got.Room, y.Room)
		// Behind them exactly the possible moves have no error.
		for from := range y.Tracks {
			for to := range y.Tracks {
				for cars := 1; cars < 8; cars++ {
					m := api.Move{From: from, To: to, Cars: cars}
					_, e := load.Apply(y, append(slices.Clone(l), m))
					expect(t, fmt.Sprint("Apply ", y, l, m), e == api.OK, slices.Contains(movesOf(want), m))
				}
			}
		}
	}
}

func TestManyMoves(t *testing.T) {
	y := exampleYard()
	there, back := api.Move{From: 0, To: 1, Cars: 3}, api.Move{From: 1, To: 0, Cars: 3}
	l := slices.Repeat([]api.Move{there, back}, 128)
	expectTracks(t, "256 moves", ok[api.Yard](t, "Apply")(load.Apply(y, l)).Tracks, [][]int{{1, 2, 3}, {}, {}})
	expectError(t, "257 moves", "Apply", args{yard: y, moves: append(l, there)}, api.ErrMany)
}

func TestBack(t *testing.T) {
	expectList(t, "Back of nothing", load.Back(nil), nil)
	l := []api.Move{{From: 0, To: 1, Cars: 2}, {From: 1, To: 2, Cars: 1}, {From: -7, To: math.MaxInt, Cars: math.MinInt}}
	expectList(t, "Back", load.Back(l), []api.Move{{From: math.MaxInt, To: -7, Cars: math.MinInt}, {From: 2, To: 1, Cars: 1}, {From: 1, To: 0, Cars: 2}})
	many := slices.Repeat(l, 1000)
	expect(t, "Back of many", len(load.Back(many)), 3000)
	expectList(t, "Back of Back", load.Back(load.Back(many)), many)
}
