package load_test

import (
	"fmt"
	"math"
	"math/rand"
	"slices"
	"testing"

	"bushel/api"
	"bushel/load"
)

// P8.8, P1 and P8: what follows from the other promises, and what holds for all functions.

// allForces returns loads, buoyancies, shears and bendings of a cargo, and its trim.
func allForces(t *testing.T, s api.Ship, masses []int) ([][]api.Rat, api.Rat) {
	t.Helper()
	var l [][]api.Rat
	for _, f := range []func(api.Ship, []int) ([]api.Rat, api.Errno){load.Loads, load.Buoyancy, load.Shear, load.Bending} {
		l = append(l, ok[[]api.Rat](t, fmt.Sprint(s, masses))(f(s, masses)))
	}
	return l, ok[api.Rat](t, fmt.Sprint(s, masses))(load.Trim(s, masses))
}

// twice returns numbers that are twice as great.
func twice(l []int) []int {
	var doubled []int
	for _, n := range l {
		doubled = append(doubled, 2*n)
	}
	return doubled
}

func TestForcesVanishAndDouble(t *testing.T) {
	r := rand.New(rand.NewSource(13))
	for i := range 300 {
		s, masses := randomShip(r, []int{1, 5, 24}[i%3], 5)
		if len(s.Holds) == 0 {
			continue
		}
		what := fmt.Sprint(s, masses)
		forces, trim := allForces(t, s, masses)
		last := len(s.Weight) - 1
		expect(t, "behind the last station "+what, []api.Rat{forces[2][last], forces[3][last]}, []api.Rat{"0", "0"})
		double := s
		double.Weight = twice(s.Weight)
		doubled, doubledTrim := allForces(t, double, twice(masses))
		expect(t, "twice the trim "+what, doubledTrim, ofBig(mul(whole(2), toBig(trim))))
		for kind, l := range forces {
			for k, force := range l {
				expect(t, "twice the force "+what, doubled[kind][k], ofBig(mul(whole(2), toBig(force))))
			}
		}
	}
}

func TestUnloading(t *testing.T) {
	r := rand.New(rand.NewSource(14))
	unloaded := 0
	for range 400 {
		s, masses := easyShip(r, 6, 2)
		if len(s.Holds) == 0 {
			continue
		}
		l, e := load.Sequence(s, masses, 1+r.Intn(3))
		if e != api.OK || len(l) == 0 {
			continue
		}
		unloaded++
		cargo := slices.Clone(masses)
		for _, p := range slices.Backward(l) {
			expect(t, fmt.Sprint("unloading ", s, l, cargo), ok[bool](t, "Safe")(load.Safe(s, cargo)), true)
			cargo[p.Hold] -= p.Mass
		}
		expect(t, "the empty ship is safe", ok[bool](t, "Safe")(load.Safe(s, cargo)), true)
		expect(t, "nothing is left", slices.Max(cargo), 0)
	}
	if unloaded < 50 {
		t.Errorf("only %d ships were unloaded", unloaded)
	}
}

// TestLimitsHoldBehindEveryPour checks P8 of DOC.md with larger ships.
func TestLimitsHoldBehindEveryPour(t *testing.T) {
	r := rand.New(rand.NewSource(15))
	loaded := 0
	for range 60 {
		s, masses := easyShip(r, 12, 2)
		for i := range s.Weight {
			s.Weight[i] += 40
		}
		if len(s.Holds) == 0 || len(s.Holds) > 6 {
			continue
		}
		passes := 1 + r.Intn(5)
		l, e := load.Sequence(s, masses, passes)
		if e != api.OK {
			continue
		}
		loaded++
		expect(t, "CheckSequence", load.CheckSequence(s, masses, passes, l), api.OK)
		for _, cargo := range ok[[][]int](t, "Run")(load.Run(s, l)) {
			_, _, e := load.Fault(s, cargo)
			expect(t, fmt.Sprint("Fault ", s, cargo), e, api.ErrNone)
		}
	}
	if loaded < 10 {
		t.Errorf("only %d ships were loaded", loaded)
	}
}

func TestMostIsTheInverseOfDraught(t *testing.T) {
	r := rand.New(rand.NewSource(16))
	for range 300 {
		c := randomTable(r, 5)
		last := toBig(c[len(c)-1].X)
		for mass := 0; whole(mass).Cmp(last) <= 0; mass++ {
			draught := ok[api.Rat](t, "Draught")(load.Draught(c, mass))
			most := ok[int](t, "Most")(load.Most(c, draught))
			expect(t, fmt.Sprint("Most of the Draught ", c, mass), most >= mass, true)
			expect(t, fmt.Sprint("the Draught of that ", c, mass), ok[api.Rat](t, "Draught")(load.Draught(c, most)), draught)
		}
	}
}

func TestBackLeadsBack(t *testing.T) {
	r := rand.New(rand.NewSource(17))
	for range 300 {
		y := randomYard(r, 5, 6)
		l, _ := randomMoves(r, y, 8)
		there := ok[api.Yard](t, "Apply")(load.Apply(y, l))
		again := ok[api.Yard](t, "Apply back")(load.Apply(there, load.Back(l)))
		expectTracks(t, fmt.Sprint("Back of ", y, l), again.Tracks, y.Tracks)
	}
}

func TestDistances(t *testing.T) {
	r := rand.New(rand.NewSource(18))
	for range 150 {
		y := randomYard(r, 4, 4)
		l, near := randomMoves(r, y, 6)
		more, far := randomMoves(r, near, 6)
		distance := func(from, to api.Yard) int {
			return ok[int](t, fmt.Sprint("Distance ", from, to))(load.Distance(from, to.Tracks))
		}
		what := fmt.Sprint(y, near, far)
		expect(t, "the distance back "+what, distance(near, y), distance(y, near))
		expect(t, "the distance over a third arrangement "+what, distance(y, far) <= distance(y, near)+distance(near, far), true)
		expect(t, "no fewer moves lead there "+what, distance(y, near) <= len(l) && distance(y, far) <= len(l)+len(more), true)
		expect(t, "the distance 0 "+what, distance(y, near) == 0, textOf(y.Tracks) == textOf(near.Tracks))
		shunted := ok[[]api.Move](t, "Shunt")(load.Shunt(y, far.Tracks))
		there := ok[api.Yard](t, "Apply")(load.Apply(y, shunted))
		expectTracks(t, "Shunt leads there "+what, there.Tracks, far.Tracks)
	}
}

// roomy returns a copy of a list with room behind it.
func roomy[T any](l []T) []T { return append(make([]T, 0, len(l)+9), l...) }

// roomyTracks returns a copy of tracks with room behind all lists.
func roomyTracks(l [][]int) [][]int {
	l = roomy(l)
	for i := range l {
		l[i] = roomy(l[i])
	}
	return l
}

// roomyArgs returns a copy of arguments with room behind all lists.
func roomyArgs(a args) args {
	a.masses, a.pours, a.table, a.rooms, a.moves, a.wanted = roomy(a.masses), roomy(a.pours), roomy(a.table), roomy(a.rooms), roomy(a.moves), roomyTracks(a.wanted)
	a.ship.Holds, a.ship.Weight, a.ship.Carry, a.ship.Shear, a.ship.Bending = roomy(a.ship.Holds), roomy(a.ship.Weight), roomy(a.ship.Carry), roomy(a.ship.Shear), roomy(a.ship.Bending)
	a.yard = api.Yard{Room: roomy(a.yard.Room), Tracks: roomyTracks(a.yard.Tracks)}
	return a
}

// room returns what is in the room behind a list.
func room[T any](l []T) []T { return l[len(l):cap(l)] }

// rooms returns what is in the room behind the lists of arguments.
func rooms(a args) string {
	behind := fmt.Sprint(room(a.masses), room(a.pours), room(a.table), room(a.rooms), room(a.moves), room(a.wanted))
	behind += fmt.Sprint(room(a.ship.Holds), room(a.ship.Weight), room(a.ship.Carry), room(a.ship.Shear), room(a.ship.Bending), room(a.yard.Room), room(a.yard.Tracks))
	for _, track := range append(slices.Clone(a.yard.Tracks), a.wanted...) {
		behind += fmt.Sprint(room(track))
	}
	return behind
}

// fill overwrites a list.
func fill[T any](l []T, x T) {
	for i := range l {
		l[i] = x
	}
}

// spoil overwrites a result.
func spoil(x any) {
	switch x := x.(type) {
	case []int:
		fill(x, -99)
	case [][]int:
		for _, l := range x {
			spoil(l)
		}
	case []api.Rat:
		fill(x, "spoilt")
	case []api.Pour:
		fill(x, api.Pour{Hold: -99})
	case []api.Move:
		fill(x, api.Move{From: -99})
	case api.Yard:
		spoil(x.Room)
		spoil(x.Tracks)
	}
}

// TestArgumentsStayAsTheyAre checks that no function changes its arguments, nor the room behind them, and that each one returns the same results again.
func TestArgumentsStayAsTheyAre(t *testing.T) {
	for name, f := range calls() {
		a := roomyArgs(goodArgs(name))
		before, behind := roomyArgs(a), rooms(a)
		first, e := f(a)
		expect(t, name, e, api.OK)
		second, _ := f(a)
		expect(t, name+" again", second, first)
		for _, x := range first {
			spoil(x)
		}
		third, _ := f(before)
		expect(t, name+": the arguments", fmt.Sprint(a), fmt.Sprint(before))
		expect(t, name+": another result", second, third)
		expect(t, name+": the room behind arguments", rooms(a), behind)
	}
}

// TestListsOfResultsShareNoMemory checks the lists of one result, also what is appended to them.
func TestListsOfResultsShareNoMemory(t *testing.T) {
	expectApart := func(what string, l [][]int) {
		for i := range l {
			l[i] = append(l[i], i)
		}
		for i := range l {
			fill(l[i][:cap(l[i])], i)
		}
		for i := range l {
			expect(t, what, slices.Equal(l[i], slices.Repeat([]int{i}, len(l[i]))), true)
		}
	}
	expectApart("the cargoes of Run", ok[[][]int](t, "Run")(load.Run(exampleShip(), pours(20, 0, 1, 0, 1))))
	r := rand.New(rand.NewSource(19))
	for range 300 {
		y := randomYard(r, 5, 6)
		l, _ := randomMoves(r, y, 8)
		before := fmt.Sprint(y)
		result := ok[api.Yard](t, "Apply")(load.Apply(y, l))
		expectApart("the lists of Apply", append(result.Tracks, result.Room))
		expect(t, "the yard", fmt.Sprint(y), before)
	}
}

// disturb makes one of the arguments any value.
func disturb(r *rand.Rand, a *args) {
	n := []int{math.MinInt, -1, 0, 1, 2, 3, 4, 5, 8, 20, 32, 33, 100, api.MaxMass, api.MaxMass + 1, math.MaxInt}[r.Intn(16)]
	text := []api.Rat{"", "0", "-1", "1", "100", "1/3", "2/6", nines(600), nines(601), "-" + nines(600), "1/" + nines(600), "x", "15", "99"}[r.Intn(14)]
	length := []int{0, 1, 2, 3, 4, 6, 7, 12, 13, 24, 25, 32, 33, 64, 65, 256, 257}[r.Intn(17)]
	ints := slices.Repeat([]int{n}, length)
	k, h := r.Intn(4), r.Intn(2)
	changes := []func(){
		func() { a.ship.Holds = make([]api.Hold, length) }, func() { a.ship.Holds[h].From = n }, func() { a.ship.Holds[h].To = n }, func() { a.ship.Holds[h].Room = n },
		func() { a.ship.Weight = ints }, func() { a.ship.Weight[k] = n }, func() { a.ship.Carry = slices.Repeat([]api.Rat{text}, length) }, func() { a.ship.Carry[k] = text },
		func() { a.ship.Shear = ints }, func() { a.ship.Shear[k] = n }, func() { a.ship.Bending = ints }, func() { a.ship.Bending[k] = n }, func() { a.ship.Trim = text },
		func() { a.masses = ints }, func() { a.masses[h] = n }, func() { a.passes = n }, func() { a.passes = n },
		func() { a.pours = make([]api.Pour, length) }, func() { a.pours[k].Hold = n }, func() { a.pours[k].Mass = n }, func() { a.pours = a.pours[:k] },
		func() { a.table = make([]api.Point, length) }, func() { a.table[r.Intn(3)].X = text }, func() { a.table[r.Intn(3)].Y = text }, func() { a.table = a.table[:1] },
		func() { a.mass = n }, func() { a.mass = n }, func() { a.draught = text }, func() { a.draught = text },
		func() { a.total = n }, func() { a.total = n }, func() { a.rooms = ints }, func() { a.rooms[r.Intn(3)] = n },
		func() { a.yard.Room = ints }, func() { a.yard.Room[r.Intn(3)] = n }, func() { a.yard.Tracks = make([][]int, length) },
		func() { a.yard.Tracks[r.Intn(3)] = ints }, func() { a.yard.Tracks[0][r.Intn(3)] = n }, func() { a.yard.Tracks[r.Intn(3)] = []int{11, 12, 13, 14, 15} },
		func() { a.moves = make([]api.Move, length) }, func() { a.moves[h].From = n }, func() { a.moves[h].To = n }, func() { a.moves[h].Cars = n },
		func() { a.wanted = make([][]int, length) }, func() { a.wanted[r.Intn(3)] = ints }, func() { a.wanted[0][r.Intn(3)] = n }, func() { a.wanted = roomyTracks(a.yard.Tracks) },
	}
	changes[r.Intn(len(changes))]()
}

// TestAllArguments checks that all functions return for arguments of any form.
func TestAllArguments(t *testing.T) {
	r := rand.New(rand.NewSource(20))
	codes := map[api.Errno]int{}
	for range 4000 {
		changes := 1 + r.Intn(4)
		seed := r.Int63()
		for name, f := range calls() {
			a := roomyArgs(goodArgs(name))
			other := rand.New(rand.NewSource(seed))
			for range changes {
				func() {
					// Some changes need what others have removed.
					defer func() { _ = recover() }()
					disturb(other, &a)
				}()
			}
			_, e := f(a)
			codes[e]++
			if e != api.OK {
				expectError(t, name, name, a, e)
			}
		}
	}
	for _, e := range []api.Errno{
		api.OK, api.ErrForm, api.ErrShape, api.ErrRange, api.ErrLarge, api.ErrMany, api.ErrNone, api.ErrTwice, api.ErrUnknown,
		api.ErrOrder, api.ErrEmpty, api.ErrFull, api.ErrSafe, api.ErrProof, api.ErrLimit,
	} {
		if codes[e] == 0 {
			t.Errorf("no function returned the error %d", e)
		}
	}
	for name, f := range calls() {
		_, e := f(args{})
		want := api.ErrShape
		if name == "Spread" || name == "Back" {
			want = api.OK
		}
		expect(t, name+" of nothing", e, want)
	}
}
