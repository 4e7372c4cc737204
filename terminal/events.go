package terminal

import (
	"slices"

	"bushel/api"
	"bushel/bin"
	"bushel/measure"
)

// kind is a kind of events: how many names and masses it has, and what does an event, or returns why it is not accepted.
type kind struct {
	names  int
	masses int
	do     func(event api.Event) api.Errno
}

// kinds returns the kinds of events, which change this office.
func (o *office) kinds() map[string]kind {
	return map[string]kind{
		"bin":    {2, 4, o.build},
		"arrive": {2, 1, o.arrive},
		"store":  {2, 2, o.store},
		"move":   {2, 3, o.move},
		"dry":    {2, 4, o.dry},
		"ship":   {2, 1, o.open},
		"blend":  {2, 1, o.open},
		"load":   {2, 2, o.load},
		"close":  {1, 0, o.close},
		"issue":  {2, 1, o.issue},
		"cancel": {2, 1, o.cancel},
	}
}

// isMass reports whether an integer is a mass.
func isMass(n int) bool { return n >= 0 && n <= api.MaxMass }

// areAll reports whether all elements of a list are of a sort.
func areAll[T any](l []T, is func(T) bool) bool {
	return !slices.ContainsFunc(l, func(x T) bool { return !is(x) })
}

// check returns the first error of an event by itself, or OK.
func (o *office) check(event api.Event) api.Errno {
	k, exists := o.kinds()[event.Kind]
	switch {
	case event.Number < 1 || event.Number > api.MaxEvents:
		return api.ErrRange
	case event.Day < 0 || event.Day > api.MaxDay:
		return api.ErrDay
	case !exists:
		return api.ErrKind
	case len(event.Names) != k.names || len(event.Masses) != k.masses:
		return api.ErrShape
	case !areAll(event.Names, measure.IsName):
		return api.ErrName
	case !areAll(event.Masses, isMass):
		return api.ErrRange
	}
	return api.OK
}

// accept does an event without an error by itself, or returns why it is not accepted. An office that has not accepted an event is to be given up, since some of the event may be done.
func (o *office) accept(event api.Event) api.Errno {
	switch {
	case event.Number != o.number+1:
		return api.ErrOrder
	case event.Day < o.Day:
		return api.ErrDay
	}
	o.number, o.Day, o.parcel = event.Number, event.Day, nil
	return o.kinds()[event.Kind].do(event)
}

// enter does an event, or returns its error, or why it is not accepted.
func (o *office) enter(event api.Event) api.Errno {
	if e := o.check(event); e != api.OK {
		return e
	}
	return o.accept(event)
}

// build adds a bin.
func (o *office) build(event api.Event) api.Errno {
	name, cells := event.Names[0], event.Masses[0]
	switch {
	case o.hasBin(name):
		return api.ErrTwice
	case len(o.Bins) == api.MaxBins || cells > api.MaxCells:
		return api.ErrMany
	}
	b := api.Bin{Flow: event.Names[1], Core: event.Masses[1], Room: event.Masses[2], Side: event.Masses[3], Cells: make([][]api.Layer, cells)}
	if e := bin.CheckBin(b); e != api.OK {
		return e
	}
	o.Bins = put(o.Bins, Stored{name, b}, compareBins)
	return api.OK
}

// pure returns a parcel of one lot.
func pure(x Lot, mass int) []api.Layer {
	return []api.Layer{{Grain: x.Grain, Mass: mass, Shares: []api.Share{{Lot: x.Name, Part: "1"}}}}
}

// arrive adds a lot.
func (o *office) arrive(event api.Event) api.Errno {
	name, mass := event.Names[0], event.Masses[0]
	if _, isThere := o.lot(name); isThere {
		return api.ErrTwice
	}
	if mass == 0 {
		return api.ErrRange
	}
	x := Lot{Name: name, Grain: event.Names[1], Arrived: mass, Waiting: mass}
	o.Lots = put(o.Lots, x, compareLots)
	o.parcel = pure(x, mass)
	return api.OK
}

// store fills what waits of a lot into a bin.
func (o *office) store(event api.Event) api.Errno {
	x, isThere := o.lot(event.Names[0])
	mass := event.Masses[1]
	switch {
	case !isThere || !o.hasBin(event.Names[1]):
		return api.ErrUnknown
	case mass == 0:
		return api.ErrRange
	case x.Waiting < mass:
		return api.ErrEmpty
	}
	x.Waiting -= mass
	o.Lots = put(o.Lots, x, compareLots)
	o.parcel = pure(x, mass)
	return o.fill(event.Names[1], event.Masses[0], o.parcel)
}

// carry draws from a bin, and fills what a treatment makes of the outflow into the same bin or another one.
func (o *office) carry(event api.Event, treat func(outflow []api.Layer) ([]api.Layer, api.Errno)) api.Errno {
	from, to := event.Names[0], event.Names[1]
	fromCell, toCell, mass := event.Masses[0], event.Masses[1], event.Masses[2]
	switch {
	case !o.hasBin(from) || !o.hasBin(to):
		return api.ErrUnknown
	case mass == 0:
		return api.ErrRange
	case from == to && fromCell == toCell:
		return api.ErrTwice
	}
	outflow, e := o.draw(from, fromCell, mass)
	if e != api.OK {
		return e
	}
	treated, e := treat(outflow)
	if e != api.OK {
		return e
	}
	return o.fill(to, toCell, treated)
}

// move carries grain as it is.
func (o *office) move(event api.Event) api.Errno {
	return o.carry(event, func(outflow []api.Layer) ([]api.Layer, api.Errno) { return outflow, api.OK })
}

// dry carries grain that loses water.
func (o *office) dry(event api.Event) api.Errno {
	var lost []bin.Amount
	e := o.carry(event, func(outflow []api.Layer) ([]api.Layer, api.Errno) {
		left, amounts, e := bin.Shrink(outflow, event.Masses[3])
		lost = amounts
		return []api.Layer{left}, e
	})
	if e != api.OK {
		return e
	}
	if e := o.lose(lost); e != api.OK {
		return e
	}
	return o.balance()
}

// open adds a shipment.
func (o *office) open(event api.Event) api.Errno {
	name, limit := event.Names[0], event.Masses[0]
	if _, isThere := o.shipment(name); isThere {
		return api.ErrTwice
	}
	if limit == 0 {
		return api.ErrRange
	}
	x := Shipment{Name: name, Grain: event.Names[1], Blend: event.Kind == "blend", Limit: limit}
	o.Shipments = put(o.Shipments, x, compareShipments)
	return api.OK
}

// with returns a shipment with a parcel behind what is in it.
func (x Shipment) with(parcel []api.Layer) (Shipment, api.Errno) {
	isOther := func(layer api.Layer) bool { return layer.Grain != x.Grain }
	if !x.Blend && slices.ContainsFunc(parcel, isOther) {
		return Shipment{}, api.ErrGrain
	}
	if massOf(x.Layers)+massOf(parcel) > x.Limit {
		return Shipment{}, api.ErrFull
	}
	layers := double(parcel)
	for i := range layers {
		layers[i].Grain = x.Grain
	}
	joined, e := bin.Join(x.Layers, layers)
	x.Layers = joined
	return x, e
}

// load draws from a bin into a shipment.
func (o *office) load(event api.Event) api.Errno {
	x, isThere := o.shipment(event.Names[0])
	mass := event.Masses[1]
	switch {
	case !isThere || !o.hasBin(event.Names[1]):
		return api.ErrUnknown
	case x.Closed:
		return api.ErrState
	case mass == 0:
		return api.ErrRange
	}
	outflow, e := o.draw(event.Names[1], event.Masses[0], mass)
	if e != api.OK {
		return e
	}
	loaded, e := x.with(outflow)
	if e != api.OK {
		return e
	}
	o.Shipments = put(o.Shipments, loaded, compareShipments)
	return o.balance()
}

// close closes a shipment.
func (o *office) close(event api.Event) api.Errno {
	x, isThere := o.shipment(event.Names[0])
	switch {
	case !isThere:
		return api.ErrUnknown
	case x.Closed:
		return api.ErrState
	}
	x.Closed = true
	o.Shipments = put(o.Shipments, x, compareShipments)
	return api.OK
}

// receipt returns what the holder of an event has of its grain.
func (o *office) receipt(event api.Event) Receipt {
	x, _ := get(o.Receipts, Receipt{Holder: event.Names[0], Grain: event.Names[1]}, compareReceipts)
	return x
}

// issue gives a holder more.
func (o *office) issue(event api.Event) api.Errno {
	if event.Masses[0] == 0 {
		return api.ErrRange
	}
	x := o.receipt(event)
	x.Mass += event.Masses[0]
	o.Receipts = put(o.Receipts, x, compareReceipts)
	return o.balance()
}

// cancel gives a holder less.
func (o *office) cancel(event api.Event) api.Errno {
	x := o.receipt(event)
	switch {
	case event.Masses[0] == 0:
		return api.ErrRange
	case x.Mass < event.Masses[0]:
		return api.ErrEmpty
	}
	x.Mass -= event.Masses[0]
	o.Receipts = put(o.Receipts, x, compareReceipts)
	o.Receipts = slices.DeleteFunc(o.Receipts, func(r Receipt) bool { return r.Mass == 0 })
	return api.OK
}
