package load

import (
	"slices"

	"bushel/api"
)

// CheckYard returns the first error of a yard, or OK.
func CheckYard(y api.Yard) api.Errno {
	switch {
	case len(y.Tracks) == 0:
		return api.ErrShape
	case len(y.Tracks) > api.MaxTracks:
		return api.ErrMany
	case len(y.Room) != len(y.Tracks):
		return api.ErrShape
	}
	for _, room := range y.Room {
		if !isFrom(0, api.MaxCars, room) {
			return api.ErrRange
		}
	}
	if e := checkCars(y.Tracks); e != api.OK {
		return e
	}
	return checkRooms(y.Room, y.Tracks)
}

// checkCars returns the first error of the cars of a yard, or OK.
func checkCars(tracks [][]int) api.Errno {
	isThere := map[int]bool{}
	for _, track := range tracks {
		for _, car := range track {
			if !isFrom(1, api.MaxNumber, car) {
				return api.ErrRange
			}
			if isThere[car] {
				return api.ErrTwice
			}
			isThere[car] = true
		}
	}
	if len(isThere) > api.MaxCars {
		return api.ErrMany
	}
	return api.OK
}

// checkRooms returns an error if a track has more cars than its room, or OK.
func checkRooms(rooms []int, tracks [][]int) api.Errno {
	for i, track := range tracks {
		if len(track) > rooms[i] {
			return api.ErrFull
		}
	}
	return api.OK
}

// arrangements returns the number of arrangements of the cars of a yard.
func arrangements(y api.Yard) int {
	product := 1
	for car := range slices.Concat(y.Tracks...) {
		// One car after another has its place: at the inner end of a track, or next to one of the cars before it.
		product *= len(y.Tracks) + car
	}
	return product
}

// Arrangements returns the number of arrangements of the cars of a yard.
func Arrangements(y api.Yard) (int, api.Errno) {
	if e := CheckYard(y); e != api.OK {
		return 0, e
	}
	return arrangements(y), api.OK
}

// moved returns the tracks behind a move. They share memory with the tracks before it, but it is not written to any more: what is added to a track needs memory of its own.
func moved(tracks [][]int, m api.Move) [][]int {
	from, to := tracks[m.From], tracks[m.To]
	rest := len(from) - m.Cars
	behind := slices.Clone(tracks)
	behind[m.From] = from[:rest:rest]
	behind[m.To] = append(to[:len(to):len(to)], from[rest:]...)
	return behind
}

// checkMove returns the first error of a move, or OK.
func checkMove(rooms []int, tracks [][]int, m api.Move) api.Errno {
	switch {
	case !isNumberOf(tracks, m.From), !isNumberOf(tracks, m.To):
		return api.ErrUnknown
	case m.From == m.To:
		return api.ErrTwice
	case m.Cars < 1:
		return api.ErrRange
	case m.Cars > len(tracks[m.From]):
		return api.ErrEmpty
	case len(tracks[m.To])+m.Cars > rooms[m.To]:
		return api.ErrFull
	}
	return api.OK
}

// Apply returns the yard behind moves.
func Apply(y api.Yard, moves []api.Move) (api.Yard, api.Errno) {
	if e := CheckYard(y); e != api.OK {
		return api.Yard{}, e
	}
	if len(moves) > api.MaxList {
		return api.Yard{}, api.ErrMany
	}
	tracks := y.Tracks
	for _, m := range moves {
		if e := checkMove(y.Room, tracks, m); e != api.OK {
			return api.Yard{}, e
		}
		tracks = moved(tracks, m)
	}
	return api.Yard{Room: slices.Clone(y.Room), Tracks: copyOf(tracks)}, api.OK
}

// copyOf returns tracks in memory of their own.
func copyOf(tracks [][]int) [][]int {
	var l [][]int
	for _, track := range tracks {
		l = append(l, slices.Clone(track))
	}
	return l
}

// Back returns the moves that undo moves.
func Back(moves []api.Move) []api.Move {
	var back []api.Move
	for _, m := range slices.Backward(moves) {
		back = append(back, api.Move{From: m.To, To: m.From, Cars: m.Cars})
	}
	return back
}
