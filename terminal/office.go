package terminal

import (
	"cmp"
	"slices"

	"bushel/api"
	"bushel/bin"
	"bushel/measure"
)

// office is a state that events change, with the number of the last event, and the parcel of which the lots are those of that event.
// Without events it is its zero value.
type office struct {
	State
	number int
	parcel []api.Layer
}

// double returns a copy of a list.
func double[T any](l []T) []T {
	copied := make([]T, len(l))
	copy(copied, l)
	return copied
}

// doubled returns an office with the same state that can be changed by itself: events replace the elements of lists, but change nothing in them.
func (o *office) doubled() office {
	d := *o
	d.Bins = double(o.Bins)
	d.Lots = double(o.Lots)
	d.Shipments = double(o.Shipments)
	d.Receipts = double(o.Receipts)
	d.Lost = double(o.Lost)
	return d
}

// get returns the element of an ascending list that is in the place of another one, in the sense of compare, or else this other one.
func get[T any](l []T, x T, compare func(a, b T) int) (T, bool) {
	i, isThere := slices.BinarySearchFunc(l, x, compare)
	if !isThere {
		return x, false
	}
	return l[i], true
}

// put puts an element into its place in an ascending list, and returns the list.
func put[T any](l []T, x T, compare func(a, b T) int) []T {
	i, isThere := slices.BinarySearchFunc(l, x, compare)
	if !isThere {
		return slices.Insert(l, i, x)
	}
	l[i] = x
	return l
}

// The orders of the lists.
func compareBins(a, b Stored) int { return cmp.Compare(a.Name, b.Name) }

func compareLots(a, b Lot) int { return cmp.Compare(a.Name, b.Name) }

func compareShipments(a, b Shipment) int { return cmp.Compare(a.Name, b.Name) }

func compareReceipts(a, b Receipt) int {
	return cmp.Or(cmp.Compare(a.Holder, b.Holder), cmp.Compare(a.Grain, b.Grain))
}

func compareAmounts(a, b bin.Amount) int { return cmp.Compare(a.Lot, b.Lot) }

// hasBin reports whether there is a bin with a name.
func (s *State) hasBin(name string) bool {
	_, isThere := get(s.Bins, Stored{Name: name}, compareBins)
	return isThere
}

// lot returns a lot.
func (s *State) lot(name string) (Lot, bool) { return get(s.Lots, Lot{Name: name}, compareLots) }

// shipment returns a shipment.
func (s *State) shipment(name string) (Shipment, bool) {
	return get(s.Shipments, Shipment{Name: name}, compareShipments)
}

// inBins returns the parcels of all cells.
func (s *State) inBins() [][]api.Layer {
	var parcels [][]api.Layer
	for _, x := range s.Bins {
		parcels = append(parcels, x.Bin.Cells...)
	}
	return parcels
}

// stocks returns the stock of each grain.
func (s *State) stocks() map[string]int {
	masses := map[string]int{}
	for _, x := range s.Lots {
		masses[x.Grain] += x.Waiting
	}
	for _, layer := range slices.Concat(s.inBins()...) {
		masses[layer.Grain] += layer.Mass
	}
	return masses
}

// balance returns ErrBalance if the receipts for some grain are more than its stock.
func (s *State) balance() api.Errno {
	rests := s.stocks()
	for _, x := range s.Receipts {
		rests[x.Grain] -= x.Mass
		if rests[x.Grain] < 0 {
			return api.ErrBalance
		}
	}
	return api.OK
}

// draw draws a mass from a cell of a bin that is there, for an event of which these are the lots.
func (o *office) draw(name string, cell, mass int) ([]api.Layer, api.Errno) {
	from, _ := get(o.Bins, Stored{Name: name}, compareBins)
	rest, outflow, e := bin.Draw(from.Bin, cell, mass)
	if e != api.OK {
		return nil, e
	}
	o.Bins = put(o.Bins, Stored{name, rest}, compareBins)
	o.parcel = outflow
	return outflow, api.OK
}

// fill fills a parcel into a cell of a bin that is there.
func (o *office) fill(name string, cell int, parcel []api.Layer) api.Errno {
	into, _ := get(o.Bins, Stored{Name: name}, compareBins)
	filled, e := bin.Fill(into.Bin, cell, parcel)
	if e != api.OK {
		return e
	}
	o.Bins = put(o.Bins, Stored{name, filled}, compareBins)
	return api.OK
}

// lose adds what lots lose to what they have lost before.
func (o *office) lose(amounts []bin.Amount) api.Errno {
	for _, x := range amounts {
		before, _ := get(o.Lost, bin.Amount{Lot: x.Lot, Mass: "0"}, compareAmounts)
		mass, e := measure.Add(before.Mass, x.Mass)
		if e != api.OK {
			return e
		}
		o.Lost = put(o.Lost, bin.Amount{Lot: x.Lot, Mass: mass}, compareAmounts)
	}
	return api.OK
}
