package load_test

import (
	"fmt"
	"math/big"
	"math/rand"
	"reflect"
	"slices"
	"strings"
	"testing"

	"bushel/api"
)

// expect reports a result that is not the expected one.
func expect(t *testing.T, what string, got, want any) {
	t.Helper()
	if !reflect.DeepEqual(got, want) {
		t.Errorf("%.600s: got %.300s, want %.300s", what, fmt.Sprint(got), fmt.Sprint(want))
	}
}

// expectList reports a list that is not the expected one; nil and empty lists are equal.
func expectList[T any](t *testing.T, what string, got, want []T) {
	t.Helper()
	if len(got) > 0 || len(want) > 0 {
		expect(t, what, got, want)
	}
}

// expectTracks reports tracks that are not the expected ones; nil and empty tracks are equal.
func expectTracks(t *testing.T, what string, got, want [][]int) {
	t.Helper()
	expect(t, what, fmt.Sprint(got), fmt.Sprint(want))
}

// ok returns a result that has no error.
func ok[T any](t *testing.T, what string) func(T, api.Errno) T {
	return func(x T, e api.Errno) T {
		t.Helper()
		if e != api.OK {
			t.Fatalf("%.600s: error %d", what, e)
		}
		return x
	}
}

// nines returns the greatest number with so many digits.
func nines(digits int) api.Rat { return api.Rat(strings.Repeat("9", digits)) }

// power returns 1 with so many zeros behind it.
func power(zeros int) api.Rat { return "1" + api.Rat(strings.Repeat("0", zeros)) }

// toBig returns a number of math/big, which is the judge of these tests.
func toBig(a api.Rat) *big.Rat {
	r, ok := new(big.Rat).SetString(string(a))
	if !ok {
		panic("not a number: " + string(a))
	}
	return r
}

// toBigs returns numbers of math/big.
func toBigs(l []api.Rat) []*big.Rat {
	var bigs []*big.Rat
	for _, a := range l {
		bigs = append(bigs, toBig(a))
	}
	return bigs
}

// ofBig returns a number as a text.
func ofBig(r *big.Rat) api.Rat { return api.Rat(r.RatString()) }

// isShort reports whether a number keeps to the limit of digits.
func isShort(r *big.Rat) bool {
	return len(new(big.Int).Abs(r.Num()).String()) <= api.MaxDigits && len(r.Denom().String()) <= api.MaxDigits
}

// result returns what a number is as a result, by the limit of digits.
func result(r *big.Rat) (api.Rat, api.Errno) {
	if !isShort(r) {
		return "", api.ErrLarge
	}
	return ofBig(r), api.OK
}

// results returns what numbers are as a result.
func results(numbers []*big.Rat) ([]api.Rat, api.Errno) {
	var l []api.Rat
	for _, n := range numbers {
		a, e := result(n)
		if e != api.OK {
			return nil, e
		}
		l = append(l, a)
	}
	return l, api.OK
}

// whole returns an integer as a number.
func whole(n int) *big.Rat { return big.NewRat(int64(n), 1) }

// add, sub, mul and quo compute with numbers of math/big.
func add(a, b *big.Rat) *big.Rat { return new(big.Rat).Add(a, b) }
func sub(a, b *big.Rat) *big.Rat { return new(big.Rat).Sub(a, b) }
func mul(a, b *big.Rat) *big.Rat { return new(big.Rat).Mul(a, b) }
func quo(a, b *big.Rat) *big.Rat { return new(big.Rat).Quo(a, b) }

// isWithin reports whether the absolute value of a number is at most another one.
func isWithin(n, most *big.Rat) bool { return new(big.Rat).Abs(n).Cmp(most) <= 0 }

// hold returns a hold.
func hold(from, to, room int) api.Hold { return api.Hold{From: from, To: to, Room: room} }

// exampleShip is the ship of the document's examples.
func exampleShip() api.Ship {
	all := func(n int) []int { return []int{n, n, n, n} }
	return api.Ship{
		Holds: []api.Hold{hold(0, 2, 40), hold(2, 4, 40)}, Weight: all(10), Carry: []api.Rat{"1", "1", "1", "1"},
		Shear: all(20), Bending: all(30), Trim: "5",
	}
}

// exampleTable is the table of draughts of the document's examples.
func exampleTable() []api.Point {
	return []api.Point{{X: "0", Y: "50"}, {X: "1000", Y: "60"}, {X: "3000", Y: "100"}}
}

// exampleYard is the yard of the document's examples.
func exampleYard() api.Yard {
	return api.Yard{Room: []int{3, 3, 3}, Tracks: [][]int{{1, 2, 3}, nil, nil}}
}

// pours returns pours of one mass into holds.
func pours(mass int, holds ...int) []api.Pour {
	var l []api.Pour
	for _, h := range holds {
		l = append(l, api.Pour{Hold: h, Mass: mass})
	}
	return l
}

// The definitions of the chapter, in its own words as far as possible.

// loadsOf returns the loads of the stations.
func loadsOf(s api.Ship, masses []int) []*big.Rat {
	var l []*big.Rat
	for k, weight := range s.Weight {
		load := whole(weight)
		for i, h := range s.Holds {
			if k >= h.From && k < h.To {
				load = add(load, quo(whole(masses[i]), whole(h.To-h.From)))
			}
		}
		l = append(l, load)
	}
	return l
}

// forces are what a cargo makes of a ship.
type forces struct {
	loads, buoyancies, shears, bendings []*big.Rat
	trim                                *big.Rat
}

// forcesOf returns the forces of a cargo. The trim is found about the centre of what the stations carry, where it needs one equation alone.
func forcesOf(s api.Ship, masses []int) forces {
	f := forces{loads: loadsOf(s, masses), trim: new(big.Rat)}
	carried, turn, sum := new(big.Rat), new(big.Rat), new(big.Rat)
	for k, carry := range toBigs(s.Carry) {
		carried, turn, sum = add(carried, carry), add(turn, mul(carry, whole(k))), add(sum, f.loads[k])
	}
	centre, lever, spread := quo(turn, carried), new(big.Rat), new(big.Rat)
	for k, carry := range toBigs(s.Carry) {
		arm := sub(whole(k), centre)
		lever, spread = add(lever, mul(arm, f.loads[k])), add(spread, mul(carry, mul(arm, arm)))
	}
	if len(s.Weight) > 1 {
		f.trim = quo(lever, spread)
	}
	shear, bending := new(big.Rat), new(big.Rat)
	for k, carry := range toBigs(s.Carry) {
		buoyancy := mul(carry, add(quo(sum, carried), mul(f.trim, sub(whole(k), centre))))
		shear = add(shear, sub(f.loads[k], buoyancy))
		bending = add(bending, shear)
		f.buoyancies, f.shears, f.bendings = append(f.buoyancies, buoyancy), append(f.shears, shear), append(f.bendings, bending)
	}
	return f
}

// faultOf returns the first limit that does not hold, and its number, or no name if all hold.
func faultOf(s api.Ship, masses []int) (string, int) {
	f := forcesOf(s, masses)
	for i, h := range s.Holds {
		if masses[i] > h.Room {
			return "room", i
		}
	}
	for k := range s.Weight {
		if f.buoyancies[k].Sign() < 0 {
			return "lift", k
		}
	}
	for k, most := range s.Shear {
		if !isWithin(f.shears[k], whole(most)) {
			return "shear", k
		}
	}
	for k, most := range s.Bending {
		if !isWithin(f.bendings[k], whole(most)) {
			return "bending", k
		}
	}
	if !isWithin(f.trim, toBig(s.Trim)) {
		return "trim", 0
	}
	return "", 0
}

// isSafe reports whether a cargo is safe.
func isSafe(s api.Ship, masses []int) bool {
	name, _ := faultOf(s, masses)
	return name == ""
}

// cargoesOf returns the cargo behind each pour, and in front of them the empty one.
func cargoesOf(s api.Ship, l []api.Pour) [][]int {
	cargoes := [][]int{make([]int, len(s.Holds))}
	for i, p := range l {
		next := slices.Clone(cargoes[i])
		next[p.Hold] += p.Mass
		cargoes = append(cargoes, next)
	}
	return cargoes
}

// areSafe reports whether pours are safe.
func areSafe(s api.Ship, l []api.Pour) bool {
	return !slices.ContainsFunc(cargoesOf(s, l), func(cargo []int) bool { return !isSafe(s, cargo) })
}

// partsOf returns the parts of a mass: they differ by at most 1, and the greater ones come first.
func partsOf(mass, passes int) []int {
	var parts []int
	for i := range passes {
		part := mass / passes
		if i < mass%passes {
			part++
		}
		if part > 0 {
			parts = append(parts, part)
		}
	}
	return parts
}

// isLoading reports whether pours are a loading of masses in a number of passes.
func isLoading(masses []int, passes int, l []api.Pour) bool {
	poured := make([][]int, len(masses))
	for _, p := range l {
		poured[p.Hold] = append(poured[p.Hold], p.Mass)
	}
	for i, mass := range masses {
		if !slices.Equal(poured[i], partsOf(mass, passes)) {
			return false
		}
	}
	return true
}

// loadings returns all loadings of parts.
func loadings(parts [][]int) [][]api.Pour {
	var l [][]api.Pour
	isOver := true
	for i, own := range parts {
		if len(own) == 0 {
			continue
		}
		isOver = false
		rest := slices.Clone(parts)
		rest[i] = own[1:]
		for _, more := range loadings(rest) {
			l = append(l, append([]api.Pour{{Hold: i, Mass: own[0]}}, more...))
		}
	}
	if isOver {
		return [][]api.Pour{nil}
	}
	return l
}

// draughtOf returns the draught of a table with a mass from its first X to its last one.
func draughtOf(c []api.Point, mass *big.Rat) *big.Rat {
	for i := len(c) - 1; ; i-- {
		x, y := toBig(c[i].X), toBig(c[i].Y)
		switch {
		case x.Cmp(mass) == 0:
			return y
		case x.Cmp(mass) < 0:
			rise, run := sub(toBig(c[i+1].Y), y), sub(toBig(c[i+1].X), x)
			return add(y, quo(mul(rise, sub(mass, x)), run))
		}
	}
}

// textOf returns an arrangement as a text.
func textOf(tracks [][]int) string { return fmt.Sprint(tracks) }

// moves returns all moves that are possible in a yard, by trying all of them.
func movesOf(y api.Yard) []api.Move {
	var l []api.Move
	for from := range y.Tracks {
		for to := range y.Tracks {
			for cars := 1; cars <= len(y.Tracks[from]); cars++ {
				if from != to && len(y.Tracks[to])+cars <= y.Room[to] {
					l = append(l, api.Move{From: from, To: to, Cars: cars})
				}
			}
		}
	}
	return l
}

// behind returns the yard behind a move that is possible.
func behind(y api.Yard, m api.Move) api.Yard {
	tracks := slices.Clone(y.Tracks)
	rest := len(tracks[m.From]) - m.Cars
	tracks[m.To] = slices.Concat(tracks[m.To], tracks[m.From][rest:])
	tracks[m.From] = slices.Clone(tracks[m.From][:rest])
	return api.Yard{Room: y.Room, Tracks: tracks}
}

// distances returns the distances of all arrangements to which moves lead.
func distances(y api.Yard) map[string]int {
	found := map[string]int{textOf(y.Tracks): 0}
	for waiting := []api.Yard{y}; len(waiting) > 0; waiting = waiting[1:] {
		for _, m := range movesOf(waiting[0]) {
			next := behind(waiting[0], m)
			if _, isOld := found[textOf(next.Tracks)]; !isOld {
				found[textOf(next.Tracks)] = found[textOf(waiting[0].Tracks)] + 1
				waiting = append(waiting, next)
			}
		}
	}
	return found
}

// allArrangements returns all arrangements of cars on tracks, for any rooms.
func allArrangements(cars []int, tracks int) [][][]int {
	if len(cars) == 0 {
		return [][][]int{make([][]int, tracks)}
	}
	var l [][][]int
	for _, before := range allArrangements(cars[1:], tracks) {
		for i, track := range before {
			for place := range len(track) + 1 {
				next := slices.Clone(before)
				next[i] = slices.Insert(slices.Clone(track), place, cars[0])
				l = append(l, next)
			}
		}
	}
	return l
}

// randomRat returns a number from low to high with a denominator of at most so much.
func randomRat(r *rand.Rand, low, high, bottom int) *big.Rat {
	n := 1 + r.Intn(bottom)
	return big.NewRat(int64(low*n+r.Intn((high-low)*n+1)), int64(n))
}

// randomShip returns a ship with at most so many stations, and masses that may be too great for its holds.
func randomShip(r *rand.Rand, stations, bottom int) (api.Ship, []int) {
	n := 1 + r.Intn(stations)
	s := api.Ship{Trim: ofBig(randomRat(r, 0, 6, bottom))}
	shear, bending := 10+r.Intn(60), 10+r.Intn(100)
	for range n {
		s.Weight = append(s.Weight, r.Intn(20))
		s.Carry = append(s.Carry, ofBig(add(randomRat(r, 0, 2, bottom), big.NewRat(1, 3))))
		s.Shear, s.Bending = append(s.Shear, shear+r.Intn(9)), append(s.Bending, bending+r.Intn(9))
	}
	var masses []int
	for from := r.Intn(2) * r.Intn(n); from < n && len(s.Holds) < api.MaxHolds; {
		to := from + 1 + r.Intn(min(3, n-from))
		s.Holds = append(s.Holds, hold(from, to, r.Intn(60)))
		masses = append(masses, max(0, s.Holds[len(s.Holds)-1].Room-r.Intn(40)+r.Intn(3)))
		from = to + r.Intn(2)*r.Intn(2)
	}
	return s, masses
}

// easyShip returns a random ship whose empty cargo is safe.
func easyShip(r *rand.Rand, stations, bottom int) (api.Ship, []int) {
	for {
		s, masses := randomShip(r, stations, bottom)
		if isSafe(s, make([]int, len(s.Holds))) {
			return s, masses
		}
	}
}

// randomTable returns a table of draughts.
func randomTable(r *rand.Rand, bottom int) []api.Point {
	x, y := new(big.Rat), randomRat(r, 0, 3, bottom)
	var c []api.Point
	for range 1 + r.Intn(5) {
		c = append(c, api.Point{X: ofBig(x), Y: ofBig(y)})
		x = add(add(x, randomRat(r, 0, 5, bottom)), big.NewRat(1, 5))
		if r.Intn(3) > 0 {
			y = add(y, randomRat(r, 0, 3, bottom))
		}
	}
	return c
}

// randomYard returns a yard with at most so many tracks and cars.
func randomYard(r *rand.Rand, tracks, cars int) api.Yard {
	y := api.Yard{}
	for range 1 + r.Intn(tracks) {
		y.Room, y.Tracks = append(y.Room, r.Intn(cars+2)), append(y.Tracks, nil)
	}
	for _, i := range r.Perm(cars)[:r.Intn(cars+1)] {
		track := r.Intn(len(y.Tracks))
		if len(y.Tracks[track]) < y.Room[track] {
			y.Tracks[track] = append(y.Tracks[track], 10*i+7)
		}
	}
	return y
}
