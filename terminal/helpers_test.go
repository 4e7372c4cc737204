package terminal_test

import (
	"fmt"
	"maps"
	"math/big"
	"math/rand"
	"slices"
	"strconv"
	"strings"
	"testing"

	"bushel/api"
	"bushel/bin"
	"bushel/terminal"
)

// written writes a value with all its parts; nil and empty lists are the same.
func written(x any) string { return fmt.Sprintf("%+v %q", x, x) }

// expect reports a result that is not the expected one; nil and empty lists are equal.
func expect(t *testing.T, what string, got, want any) {
	t.Helper()
	if written(got) != written(want) {
		t.Errorf("%.600s: got %.900s, want %.900s", what, fmt.Sprint(got), fmt.Sprint(want))
	}
}

// ok returns a result that has no error.
func ok[T any](t *testing.T, what string) func(T, api.Errno) T {
	return func(x T, e api.Errno) T {
		t.Helper()
		if e != api.OK {
			t.Fatalf("%.600s: error %d", what, e)
		}
		return x
	}
}

// shapes says how many names and masses each kind of events has.
func shapes() map[string][2]int {
	return map[string][2]int{
		"bin": {2, 4}, "arrive": {2, 1}, "store": {2, 2}, "move": {2, 3}, "dry": {2, 4}, "ship": {2, 1}, "blend": {2, 1},
		"load": {2, 2}, "close": {1, 0}, "issue": {2, 1}, "cancel": {2, 1},
	}
}

// event returns the event of a text such as store red east 0 30.
func event(number, day int, text string) api.Event {
	words := strings.Split(text, " ")
	e := api.Event{Number: number, Day: day, Kind: words[0]}
	names := 1 + shapes()[words[0]][0]
	for i, word := range words[1:] {
		if i+1 < names {
			e.Names = append(e.Names, word)
			continue
		}
		mass, err := strconv.Atoi(word)
		if err != nil {
			panic("not an event: " + text)
		}
		e.Masses = append(e.Masses, mass)
	}
	return e
}

// story returns the events of texts, all on the day 3.
func story(texts ...string) []api.Event {
	var l []api.Event
	for i, text := range texts {
		l = append(l, event(i+1, 3, text))
	}
	return l
}

// exampleTexts are the events of the document's examples.
func exampleTexts() []string {
	return []string{
		"bin east mass 1 0 100 50", "bin west funnel 2 4 100 60", "arrive red wheat 40", "arrive blue wheat 20", "store red east 0 30",
		"store blue east 0 20", "move east west 0 1 36", "ship oslo wheat 90", "load oslo west 1 9", "issue ann wheat 50",
	}
}

// example returns the first events of the document's examples.
func example(n int) []api.Event { return story(exampleTexts()[:n]...) }

// then returns events with further ones on the day 3 behind them.
func then(l []api.Event, texts ...string) []api.Event {
	l = slices.Clone(l)
	for _, text := range texts {
		l = append(l, event(len(l)+1, 3, text))
	}
	return l
}

// textsOf returns the events as texts, for messages.
func textsOf(l []api.Event) string {
	var texts []string
	for _, e := range l {
		texts = append(texts, fmt.Sprint(e.Number, " ", e.Day, " ", e.Kind, " ", strings.Join(e.Names, " "), e.Masses))
	}
	return strings.Join(texts, "; ")
}

// copyOf returns a copy of events that shares no memory with them.
func copyOf(l []api.Event) []api.Event {
	l = slices.Clone(l)
	for i := range l {
		l[i].Names, l[i].Masses = slices.Clone(l[i].Names), slices.Clone(l[i].Masses)
	}
	return l
}

// toBig returns a number of math/big, which is the judge of these tests.
func toBig(a api.Rat) *big.Rat {
	r, ok := new(big.Rat).SetString(string(a))
	if !ok {
		panic("not a number: " + string(a))
	}
	return r
}

// whole returns an integer as a number.
func whole(n int) *big.Rat { return big.NewRat(int64(n), 1) }

// The model has the definitions of the chapter in its own words, kilogram by kilogram.

// lots are masses of lots.
type lots map[string]*big.Rat

// add adds a mass of a lot.
func (l lots) add(lot string, mass *big.Rat) {
	if l[lot] == nil {
		l[lot] = new(big.Rat)
	}
	l[lot] = new(big.Rat).Add(l[lot], mass)
}

// times returns the masses, each one multiplied.
func (l lots) times(factor *big.Rat) lots {
	result := lots{}
	for lot, mass := range l {
		result.add(lot, new(big.Rat).Mul(mass, factor))
	}
	return result
}

// of returns the mass of a lot.
func (l lots) of(lot string) *big.Rat { return sum(nil, l[lot]) }

// sum returns the sum of masses and further ones, of which some may be missing.
func sum(l lots, further ...*big.Rat) *big.Rat {
	s := new(big.Rat)
	for _, mass := range append(slices.Collect(maps.Values(l)), further...) {
		if mass != nil {
			s.Add(s, mass)
		}
	}
	return s
}

// String writes the masses in the order of the lots.
func (l lots) String() string {
	var texts []string
	for _, lot := range slices.Sorted(maps.Keys(l)) {
		texts = append(texts, lot+" "+l[lot].RatString())
	}
	return strings.Join(texts, ", ")
}

// kilo is a kilogram: its grain, and its parts of lots.
type kilo struct {
	grain string
	parts lots
}

// silo is a bin of the model.
type silo struct {
	flow             string
	core, room, side int
	cells            [][]kilo
}

// cargo is a shipment of the model.
type cargo struct {
	grain    string
	limit    int
	isBlend  bool
	isClosed bool
	inside   []kilo
}

// model is a terminal.
type model struct {
	number, day int
	silos       map[string]*silo
	grains      map[string]string
	arrived     map[string]int
	waiting     map[string]int
	cargoes     map[string]*cargo
	receipts    map[[2]string]int
	lost        lots
	journeys    map[string][]int
}

// refuse ends an event with an error in a case.
func refuse(isSo bool, e api.Errno) {
	if isSo {
		panic(e)
	}
}

// run returns the model behind events, or the place of the first one with an error.
func run(l []api.Event) (m *model, place int, e api.Errno) {
	m = &model{
		silos: map[string]*silo{}, grains: map[string]string{}, arrived: map[string]int{}, waiting: map[string]int{},
		cargoes: map[string]*cargo{}, receipts: map[[2]string]int{}, lost: lots{}, journeys: map[string][]int{},
	}
	defer func() {
		if r := recover(); r != nil {
			m, e = nil, r.(api.Errno)
		}
	}()
	refuse(len(l) > 1000, api.ErrMany)
	for i, x := range l {
		place = i + 1
		refuseEvent(x)
		m.do(x)
	}
	return m, 0, api.OK
}

// isName reports whether a text is a name.
func isName(s string) bool {
	const letters = "abcdefghijklmnopqrstuvwxyzABCDEFGHIJKLMNOPQRSTUVWXYZ0123456789-_."
	return len(s) > 0 && len(s) <= 24 && strings.Trim(s, letters) == ""
}

// refuseEvent refuses an event with an error by itself.
func refuseEvent(e api.Event) {
	shape, isKind := shapes()[e.Kind]
	refuse(e.Number < 1 || e.Number > 1000, api.ErrRange)
	refuse(e.Day < 0 || e.Day > 100000, api.ErrDay)
	refuse(!isKind, api.ErrKind)
	refuse(len(e.Names) != shape[0] || len(e.Masses) != shape[1], api.ErrShape)
	for _, name := range e.Names {
		refuse(!isName(name), api.ErrName)
	}
	for _, mass := range e.Masses {
		refuse(mass < 0 || mass > 999999999, api.ErrRange)
	}
}

// runs returns how many layers the normal form of kilograms has.
func runs(l []kilo) int { return len(slices.Compact(kinds(l))) }

// kinds returns what each kilogram is.
func kinds(l []kilo) []string {
	var texts []string
	for _, k := range l {
		texts = append(texts, k.grain+": "+k.parts.String())
	}
	return texts
}

// isUnsafe reports whether neighbouring cells differ too much.
func (s *silo) isUnsafe() bool {
	for i := 1; i < len(s.cells); i++ {
		difference := len(s.cells[i]) - len(s.cells[i-1])
		if max(difference, -difference) > s.side {
			return true
		}
	}
	return false
}

// fill puts kilograms on top of a cell.
func (s *silo) fill(cell int, l []kilo) {
	refuse(cell >= len(s.cells), api.ErrUnknown)
	for _, k := range slices.Concat(s.cells[cell], l) {
		refuse(k.grain != l[0].grain, api.ErrGrain)
	}
	s.cells[cell] = slices.Concat(s.cells[cell], l)
	refuse(len(s.cells[cell]) > s.room, api.ErrFull)
	refuse(s.isUnsafe(), api.ErrSafe)
	refuse(runs(s.cells[cell]) > 64, api.ErrMany)
}

// draw takes kilograms from a cell, one after another.
func (s *silo) draw(cell, mass int) []kilo {
	refuse(cell >= len(s.cells), api.ErrUnknown)
	refuse(len(s.cells[cell]) < mass, api.ErrEmpty)
	var highs, lows []kilo
	for range mass {
		l := s.cells[cell]
		n := len(l)
		if s.flow == "mass" || n%s.core == 0 {
			lows, s.cells[cell] = append(lows, l[0]), l[1:]
		} else {
			highs, s.cells[cell] = append(highs, l[n-1]), l[:n-1]
		}
	}
	refuse(s.isUnsafe(), api.ErrSafe)
	refuse(runs(append(highs, lows...)) > 64, api.ErrMany)
	return append(highs, lows...)
}

// inside returns all kilograms of a bin.
func (s *silo) inside() []kilo { return slices.Concat(s.cells...) }

// amounts returns the masses of the lots in kilograms.
func amounts(l []kilo) lots {
	result := lots{}
	for _, k := range l {
		for lot, part := range k.parts {
			result.add(lot, part)
		}
	}
	return result
}

// touch notes an event of the lots of kilograms.
func (m *model) touch(number int, l []kilo) {
	for lot := range amounts(l) {
		m.journeys[lot] = append(m.journeys[lot], number)
	}
}

// pure returns kilograms of one lot.
func (m *model) pure(lot string, mass int) []kilo {
	return slices.Repeat([]kilo{{m.grains[lot], lots{lot: whole(1)}}}, mass)
}

// stock returns the stock of a grain.
func (m *model) stock(grain string) int {
	stock := 0
	for lot, mass := range m.waiting {
		if m.grains[lot] == grain {
			stock += mass
		}
	}
	for _, s := range m.silos {
		for _, k := range s.inside() {
			if k.grain == grain {
				stock++
			}
		}
	}
	return stock
}

// refuseDebts refuses receipts for more than the stock.
func (m *model) refuseDebts() {
	owed := map[string]int{}
	for owner, mass := range m.receipts {
		owed[owner[1]] += mass
	}
	for grain, mass := range owed {
		refuse(mass > m.stock(grain), api.ErrBalance)
	}
}

// do does an event without an error by itself.
func (m *model) do(e api.Event) {
	refuse(e.Number != m.number+1, api.ErrOrder)
	refuse(e.Day < m.day, api.ErrDay)
	m.number, m.day = e.Number, e.Day
	first := e.Names[0]
	switch e.Kind {
	case "bin":
		m.build(first, e.Names[1], e.Masses)
	case "arrive":
		refuse(m.grains[first] != "", api.ErrTwice)
		refuse(e.Masses[0] == 0, api.ErrRange)
		m.grains[first], m.arrived[first], m.waiting[first] = e.Names[1], e.Masses[0], e.Masses[0]
		m.touch(e.Number, m.pure(first, 1))
	case "store":
		m.store(e)
	case "move", "dry":
		m.carry(e)
	case "ship", "blend":
		refuse(m.cargoes[first] != nil, api.ErrTwice)
		refuse(e.Masses[0] == 0, api.ErrRange)
		m.cargoes[first] = &cargo{grain: e.Names[1], limit: e.Masses[0], isBlend: e.Kind == "blend"}
	case "load":
		m.load(e)
	case "close":
		refuse(m.cargoes[first] == nil, api.ErrUnknown)
		refuse(m.cargoes[first].isClosed, api.ErrState)
		m.cargoes[first].isClosed = true
	case "issue", "cancel":
		m.owe(e)
	}
}

// build adds a bin.
func (m *model) build(name, flow string, masses []int) {
	cells, core, room, side := masses[0], masses[1], masses[2], masses[3]
	refuse(m.silos[name] != nil, api.ErrTwice)
	refuse(len(m.silos) >= 32, api.ErrMany)
	refuse(cells > 8, api.ErrMany)
	refuse(flow != "mass" && flow != "funnel", api.ErrKind)
	refuse(flow == "mass" && core != 0 || flow == "funnel" && core < 2, api.ErrRange)
	refuse(room < 1, api.ErrRange)
	refuse(cells < 1, api.ErrShape)
	m.silos[name] = &silo{flow, core, room, side, make([][]kilo, cells)}
}

// store fills what waits into a bin.
func (m *model) store(e api.Event) {
	lot, mass := e.Names[0], e.Masses[1]
	refuse(m.grains[lot] == "" || m.silos[e.Names[1]] == nil, api.ErrUnknown)
	refuse(mass == 0, api.ErrRange)
	refuse(m.waiting[lot] < mass, api.ErrEmpty)
	m.silos[e.Names[1]].fill(e.Masses[0], m.pure(lot, mass))
	m.waiting[lot] -= mass
	m.touch(e.Number, m.pure(lot, mass))
}

// carry moves or dries.
func (m *model) carry(e api.Event) {
	from, to, mass := m.silos[e.Names[0]], m.silos[e.Names[1]], e.Masses[2]
	refuse(from == nil || to == nil, api.ErrUnknown)
	refuse(mass == 0, api.ErrRange)
	refuse(from == to && e.Masses[0] == e.Masses[1], api.ErrTwice)
	outflow := from.draw(e.Masses[0], mass)
	m.touch(e.Number, outflow)
	if e.Kind == "dry" {
		left := e.Masses[3]
		refuse(left == 0, api.ErrRange)
		refuse(left > mass, api.ErrEmpty)
		parts := amounts(outflow).times(big.NewRat(1, int64(mass)))
		refuse(len(parts) > 64, api.ErrMany)
		if left < mass {
			for lot, part := range parts {
				m.lost.add(lot, new(big.Rat).Mul(part, whole(mass-left)))
			}
		}
		outflow = slices.Repeat([]kilo{{outflow[0].grain, parts}}, left)
	}
	to.fill(e.Masses[1], outflow)
	m.refuseDebts()
}

// load loads a shipment.
func (m *model) load(e api.Event) {
	c, s, mass := m.cargoes[e.Names[0]], m.silos[e.Names[1]], e.Masses[1]
	refuse(c == nil || s == nil, api.ErrUnknown)
	refuse(c.isClosed, api.ErrState)
	refuse(mass == 0, api.ErrRange)
	outflow := s.draw(e.Masses[0], mass)
	m.touch(e.Number, outflow)
	refuse(!c.isBlend && c.grain != outflow[0].grain, api.ErrGrain)
	for _, k := range outflow {
		c.inside = append(c.inside, kilo{c.grain, k.parts})
	}
	refuse(len(c.inside) > c.limit, api.ErrFull)
	refuse(runs(c.inside) > 64, api.ErrMany)
	m.refuseDebts()
}

// owe issues or cancels a receipt.
func (m *model) owe(e api.Event) {
	owner, mass := [2]string{e.Names[0], e.Names[1]}, e.Masses[0]
	refuse(mass == 0, api.ErrRange)
	if e.Kind == "cancel" {
		refuse(m.receipts[owner] < mass, api.ErrEmpty)
		mass = -mass
	}
	m.receipts[owner] += mass
	m.refuseDebts()
	if m.receipts[owner] == 0 {
		delete(m.receipts, owner)
	}
}

// kilosOf returns the kilograms of a parcel, and reports it if it is not in normal form.
func kilosOf(t *testing.T, what string, l []api.Layer) []kilo {
	t.Helper()
	var result []kilo
	for i, x := range l {
		if i > 0 && x.Grain == l[i-1].Grain && slices.Equal(x.Shares, l[i-1].Shares) {
			t.Errorf("%.600s: not in normal form: %v", what, l)
		}
		parts := lots{}
		for _, s := range x.Shares {
			parts.add(s.Lot, toBig(s.Part))
		}
		result = append(result, slices.Repeat([]kilo{{x.Grain, parts}}, x.Mass)...)
	}
	return result
}

// expectState reports a state that is not the one of the model.
func expectState(t *testing.T, what string, got terminal.State, m *model) {
	t.Helper()
	expect(t, what+": day", got.Day, m.day)
	var names []string
	for _, x := range got.Bins {
		names = append(names, x.Name)
		s := m.silos[x.Name]
		if s == nil || len(s.cells) != len(x.Bin.Cells) {
			t.Fatalf("%.600s: bin %v", what, x)
		}
		expect(t, what+": bin "+x.Name, []any{x.Bin.Flow, x.Bin.Core, x.Bin.Room, x.Bin.Side}, []any{s.flow, s.core, s.room, s.side})
		for i, l := range x.Bin.Cells {
			expect(t, fmt.Sprint(what, ": bin ", x.Name, " ", i), kinds(kilosOf(t, what, l)), kinds(s.cells[i]))
		}
	}
	expect(t, what+": bins", names, slices.Sorted(maps.Keys(m.silos)))
	names = nil
	for _, x := range got.Shipments {
		names = append(names, x.Name)
		c := m.cargoes[x.Name]
		if c == nil {
			t.Fatalf("%.600s: shipment %v", what, x)
		}
		expect(t, what+": shipment "+x.Name, []any{x.Grain, x.Blend, x.Limit, x.Closed}, []any{c.grain, c.isBlend, c.limit, c.isClosed})
		expect(t, what+": in "+x.Name, kinds(kilosOf(t, what, x.Layers)), kinds(c.inside))
	}
	expect(t, what+": shipments", names, slices.Sorted(maps.Keys(m.cargoes)))
	var arrived []terminal.Lot
	for _, lot := range slices.Sorted(maps.Keys(m.grains)) {
		arrived = append(arrived, terminal.Lot{Name: lot, Grain: m.grains[lot], Arrived: m.arrived[lot], Waiting: m.waiting[lot]})
	}
	expect(t, what+": lots", got.Lots, arrived)
	expect(t, what+": receipts", got.Receipts, m.owners())
	expect(t, what+": lost", got.Lost, asAmounts(m.lost))
}

// owners returns the receipts of the model.
func (m *model) owners() []terminal.Receipt {
	var l []terminal.Receipt
	for owner, mass := range m.receipts {
		l = append(l, terminal.Receipt{Holder: owner[0], Grain: owner[1], Mass: mass})
	}
	slices.SortFunc(l, func(a, b terminal.Receipt) int {
		if a.Holder != b.Holder {
			return strings.Compare(a.Holder, b.Holder)
		}
		return strings.Compare(a.Grain, b.Grain)
	})
	return l
}

// asAmounts returns masses of lots as amounts.
func asAmounts(l lots) []bin.Amount {
	var result []bin.Amount
	for _, lot := range slices.Sorted(maps.Keys(l)) {
		result = append(result, bin.Amount{Lot: lot, Mass: api.Rat(l[lot].RatString())})
	}
	return result
}

// randomText returns the text of an event of few bins, lots, shipments and holders.
func randomText(r *rand.Rand) string {
	pick := func(l ...string) string { return l[r.Intn(len(l))] }
	grain := func() string { return pick("rye", "wheat", "wheat", "wheat") }
	lot := func() string { return pick("red", "blue", "green", "a", "B") }
	silo := func() string { return pick("east", "west", "north") }
	shipment := func() string { return pick("oslo", "riga", "turku") }
	mass := func() int { return min(1, r.Intn(9)) * (1 + r.Intn(8)) * (1 + r.Intn(2)) }
	cell := func() int { return r.Intn(2) + r.Intn(8)/7 }
	n := mass()
	switch r.Intn(28) {
	case 0:
		return fmt.Sprint("bin ", silo(), " ", pick("mass", "funnel"), " ", 1+r.Intn(3), " ", 2*r.Intn(2), " ", 20+r.Intn(40), " ", 10+r.Intn(30))
	case 1:
		return fmt.Sprint("arrive ", lot(), " ", grain(), " ", n*3)
	case 2, 3, 4, 5, 6, 7:
		return fmt.Sprint("store ", lot(), " ", silo(), " ", cell(), " ", n)
	case 8, 9, 10, 11, 12:
		return fmt.Sprint("move ", silo(), " ", silo(), " ", cell(), " ", cell(), " ", n)
	case 13, 14, 15:
		return fmt.Sprint("dry ", silo(), " ", silo(), " ", cell(), " ", cell(), " ", n, " ", max(0, n-r.Intn(4)+r.Intn(8)/7))
	case 16:
		return fmt.Sprint(pick("ship", "blend"), " ", shipment(), " ", grain(), " ", r.Intn(9)*5)
	case 17, 18, 19, 20:
		return fmt.Sprint("load ", shipment(), " ", silo(), " ", cell(), " ", n)
	case 21, 22:
		if r.Intn(4) > 0 {
			return fmt.Sprint("cancel ", pick("ann", "bob"), " ", grain(), " ", n/2)
		}
		return fmt.Sprint("close ", shipment())
	}
	return fmt.Sprint("issue ", pick("ann", "bob", "ann.b"), " ", grain(), " ", n*2)
}

// randomBeginning returns events with which a story begins, often all of them.
func randomBeginning(r *rand.Rand) []api.Event {
	texts := []string{
		"bin east mass 2 0 40 25", "arrive red wheat 60", "bin west funnel 3 3 45 30", "arrive blue wheat 50", "arrive B rye 70", "blend riga mix 60",
		"store red east 0 9", "store blue east 0 12", "store B west 0 14", "store blue east 1 6", "store red west 1 10", "ship oslo wheat 25",
	}
	return story(texts[:min(len(texts), r.Intn(2*len(texts)))]...)
}

// randomStory returns accepted events, and calls a function with each event that was tried behind those before it.
func randomStory(r *rand.Rand, tries int, try func(l []api.Event, e api.Event, refusal api.Errno)) []api.Event {
	l := randomBeginning(r)
	for day := 3; tries > 0; tries-- {
		day += r.Intn(2)
		e := event(len(l)+1, day, randomText(r))
		_, _, refusal := run(append(slices.Clone(l), e))
		try(l, e, refusal)
		if refusal == api.OK {
			l = append(l, e)
		}
	}
	return l
}

// randomEvents returns accepted events.
func randomEvents(r *rand.Rand, tries int) []api.Event {
	return randomStory(r, tries, func([]api.Event, api.Event, api.Errno) {})
}
