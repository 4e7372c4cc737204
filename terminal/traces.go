package terminal

import (
	"iter"
	"slices"

	"bushel/api"
	"bushel/bin"
	"bushel/exact"
	"bushel/measure"
	"bushel/numbers"
)

// lotsOf visits the lots of a parcel with their masses, layer by layer.
func lotsOf(parcel []api.Layer) iter.Seq2[string, exact.Number] {
	return func(yield func(string, exact.Number) bool) {
		for _, layer := range parcel {
			for _, share := range layer.Shares {
				part, _ := numbers.Read(share.Part)
				if !yield(share.Lot, part.Times(exact.Whole(layer.Mass))) {
					return
				}
			}
		}
	}
}

// hasLot reports whether a lot has a share in a parcel.
func hasLot(parcel []api.Layer, lot string) bool {
	for name := range lotsOf(parcel) {
		if name == lot {
			return true
		}
	}
	return false
}

// massesOf returns the mass of each lot in some parcels together.
func massesOf(parcels ...[]api.Layer) map[string]exact.Number {
	masses := map[string]exact.Number{}
	for _, parcel := range parcels {
		for lot, mass := range lotsOf(parcel) {
			masses[lot] = masses[lot].Plus(mass)
		}
	}
	return masses
}

// massOf returns the mass of a parcel.
func massOf(parcel []api.Layer) int {
	mass := 0
	for _, layer := range parcel {
		mass += layer.Mass
	}
	return mass
}

// inShipments returns the parcels of all shipments.
func (s *State) inShipments() [][]api.Layer {
	var parcels [][]api.Layer
	for _, x := range s.Shipments {
		parcels = append(parcels, x.Layers)
	}
	return parcels
}

// checkLot returns the error of the name of a lot that is to have arrived, or OK.
func (s *State) checkLot(name string) api.Errno {
	if !measure.IsName(name) {
		return api.ErrName
	}
	if _, isThere := s.lot(name); !isThere {
		return api.ErrUnknown
	}
	return api.OK
}

// checkLots returns the first error of the names of lots for a recall, or OK.
func (s *State) checkLots(names []string) api.Errno {
	switch {
	case len(names) == 0:
		return api.ErrShape
	case len(names) > api.MaxLots:
		return api.ErrMany
	}
	for i, name := range names {
		if e := s.checkLot(name); e != api.OK {
			return e
		}
		if slices.Contains(names[:i], name) {
			return api.ErrTwice
		}
	}
	return api.OK
}

// Stock returns the stock of a grain.
func Stock(l []api.Event, grain string) (int, api.Errno) {
	s, _, e := Replay(l)
	if e != api.OK {
		return 0, e
	}
	if !measure.IsName(grain) {
		return 0, api.ErrName
	}
	return s.stocks()[grain], api.OK
}

// Balance returns where the kilograms of each lot are.
func Balance(l []api.Event) ([]Line, api.Errno) {
	s, _, e := Replay(l)
	if e != api.OK {
		return nil, e
	}
	stored, shipped, lost := massesOf(s.inBins()...), massesOf(s.inShipments()...), map[string]exact.Number{}
	for _, x := range s.Lost {
		lost[x.Lot], _ = numbers.Read(x.Mass)
	}
	return numbers.Each(s.Lots, func(x Lot) (Line, api.Errno) {
		l, e := numbers.Each([]exact.Number{exact.Whole(x.Arrived), exact.Whole(x.Waiting), stored[x.Name], shipped[x.Name], lost[x.Name]}, numbers.Write)
		if e != api.OK {
			return Line{}, e
		}
		return Line{Lot: x.Name, Arrived: l[0], Waiting: l[1], Stored: l[2], Shipped: l[3], Lost: l[4]}, api.OK
	})
}

// Trace returns the lots in a shipment.
func Trace(l []api.Event, shipment string) ([]bin.Amount, api.Errno) {
	s, _, e := Replay(l)
	if e != api.OK {
		return nil, e
	}
	if !measure.IsName(shipment) {
		return nil, api.ErrName
	}
	x, isThere := s.shipment(shipment)
	if !isThere {
		return nil, api.ErrUnknown
	}
	return bin.Lots(x.Layers)
}

// Reach returns the shipments that a lot is in.
func Reach(l []api.Event, lot string) ([]string, api.Errno) {
	s, _, e := Replay(l)
	if e != api.OK {
		return nil, e
	}
	if e := s.checkLot(lot); e != api.OK {
		return nil, e
	}
	var names []string
	for _, x := range s.Shipments {
		if hasLot(x.Layers, lot) {
			names = append(names, x.Name)
		}
	}
	return names, api.OK
}

// Recall returns the shipments that some lots are in.
func Recall(l []api.Event, lots []string) ([]Hit, api.Errno) {
	s, _, e := Replay(l)
	if e != api.OK {
		return nil, e
	}
	if e := s.checkLots(lots); e != api.OK {
		return nil, e
	}
	var hits []Hit
	for _, x := range s.Shipments {
		sum := exact.Number{}
		for lot, mass := range lotsOf(x.Layers) {
			if slices.Contains(lots, lot) {
				sum = sum.Plus(mass)
			}
		}
		if sum.Sign() == 0 {
			continue
		}
		mass, e := numbers.Write(sum)
		if e != api.OK {
			return nil, e
		}
		hits = append(hits, Hit{x.Name, mass})
	}
	return hits, api.OK
}

// Journey returns the events of a lot.
func Journey(l []api.Event, lot string) ([]int, api.Errno) {
	s, _, e := Replay(l)
	if e != api.OK {
		return nil, e
	}
	if e := s.checkLot(lot); e != api.OK {
		return nil, e
	}
	var events []int
	o := new(office)
	for _, event := range l {
		o.accept(event)
		if hasLot(o.parcel, lot) {
			events = append(events, event.Number)
		}
	}
	return events, api.OK
}
