package load

import (
	"iter"
	"slices"

	"bushel/api"
)

// arrangement is an arrangement of the cars of a yard: the cars track by track, with a 0, which is no car, behind each track.
type arrangement [api.MaxCars + api.MaxTracks]int

// arrangementOf returns the arrangement of cars on tracks.
func arrangementOf(tracks [][]int) arrangement {
	var a arrangement
	end := 0
	for _, track := range tracks {
		end += copy(a[end:], track) + 1
	}
	return a
}

// place is an arrangement to which moves lead: its tracks, and the last one of the moves with the place before it, if there is one.
type place struct {
	tracks [][]int
	move   api.Move
	before *place
}

// moves returns the moves that lead to a place.
func (p *place) moves() []api.Move {
	var l []api.Move
	for ; p.before != nil; p = p.before {
		l = append(l, p.move)
	}
	slices.Reverse(l)
	return l
}

// next visits the places to which a single move leads from a place.
func (p *place) next(rooms []int) iter.Seq[*place] {
	return func(yield func(*place) bool) {
		for from, track := range p.tracks {
			for to := range p.tracks {
				for more := range track {
					m := api.Move{From: from, To: to, Cars: more + 1}
					if checkMove(rooms, p.tracks, m) == api.OK && !yield(&place{moved(p.tracks, m), m, p}) {
						return
					}
				}
			}
		}
	}
}

// layers visits all arrangements to which moves lead, each one once: in the first layer that of the yard, and in each further one those with the next distance.
func layers(y api.Yard) iter.Seq[[]*place] {
	return func(yield func([]*place) bool) {
		isFound := map[arrangement]bool{arrangementOf(y.Tracks): true}
		layer := []*place{{tracks: y.Tracks}}
		for len(layer) > 0 && yield(layer) {
			var further []*place
			for _, p := range layer {
				for next := range p.next(y.Room) {
					if a := arrangementOf(next.tracks); !isFound[a] {
						isFound[a] = true
						further = append(further, next)
					}
				}
			}
			layer = further
		}
	}
}

// checkWanted returns the first error of a wanted arrangement of a yard, or OK.
func checkWanted(y api.Yard, wanted [][]int) api.Errno {
	if len(wanted) != len(y.Tracks) {
		return api.ErrShape
	}
	cars, isThere := slices.Concat(y.Tracks...), map[int]bool{}
	for _, track := range wanted {
		for _, car := range track {
			if !slices.Contains(cars, car) {
				return api.ErrUnknown
			}
			if isThere[car] {
				return api.ErrTwice
			}
			isThere[car] = true
		}
	}
	if len(isThere) < len(cars) {
		return api.ErrShape
	}
	return checkRooms(y.Room, wanted)
}

// Distance returns the least number of moves that lead to an arrangement.
func Distance(y api.Yard, wanted [][]int) (int, api.Errno) {
	moves, e := Shunt(y, wanted)
	return len(moves), e
}

// Shunt returns as few moves as possible that lead to an arrangement.
func Shunt(y api.Yard, wanted [][]int) ([]api.Move, api.Errno) {
	if e := CheckYard(y); e != api.OK {
		return nil, e
	}
	if e := checkWanted(y, wanted); e != api.OK {
		return nil, e
	}
	if arrangements(y) > api.MaxStates {
		return nil, api.ErrLimit
	}
	goal := arrangementOf(wanted)
	var found *place
search:
	for layer := range layers(y) {
		for _, p := range layer {
			if arrangementOf(p.tracks) == goal {
				found = p
				break search
			}
		}
	}
	if found == nil {
		return nil, api.ErrNone
	}
	return found.moves(), api.OK
}

// Rings returns the numbers of arrangements by their distances.
func Rings(y api.Yard) ([]int, api.Errno) {
	if e := CheckYard(y); e != api.OK {
		return nil, e
	}
	if arrangements(y) > api.MaxStates {
		return nil, api.ErrLimit
	}
	var counts []int
	for layer := range layers(y) {
		counts = append(counts, len(layer))
	}
	return counts, api.OK
}
