package terminal

import (
	"slices"
	"strconv"

	"bushel/api"
	"bushel/bin"
)

// Report returns the report of a state.
func Report(l []api.Event) (string, api.Errno) {
	s, _, e := Replay(l)
	if e != api.OK {
		return "", e
	}
	return lines(slices.Concat(
		[]string{phrase("day", strconv.Itoa(s.Day))},
		texts(s.Bins, lineOfBin),
		texts(s.Lots, lineOfLot),
		texts(s.Shipments, lineOfShipment),
		texts(s.Receipts, lineOfReceipt),
		texts(s.Lost, lineOfLost),
	)...), api.OK
}

// lineOfBin returns the line of a bin.
func lineOfBin(x Stored) string {
	levels := texts(x.Bin.Cells, func(cell []api.Layer) string { return strconv.Itoa(massOf(cell)) })
	return phrase("bin", x.Name, phrase(levels...))
}

// lineOfLot returns the line of a lot.
func lineOfLot(x Lot) string {
	return phrase("lot", x.Name, x.Grain, strconv.Itoa(x.Arrived), strconv.Itoa(x.Waiting))
}

// lineOfShipment returns the line of a shipment.
func lineOfShipment(x Shipment) string {
	kind, state := "ship", "open"
	if x.Blend {
		kind = "blend"
	}
	if x.Closed {
		state = "closed"
	}
	return phrase(kind, x.Name, x.Grain, strconv.Itoa(massOf(x.Layers)), state)
}

// lineOfReceipt returns the line of a receipt.
func lineOfReceipt(x Receipt) string {
	return phrase("receipt", x.Holder, x.Grain, strconv.Itoa(x.Mass))
}

// lineOfLost returns the line of what a lot has lost.
func lineOfLost(x bin.Amount) string { return phrase("lost", x.Lot, string(x.Mass)) }
