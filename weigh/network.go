package weigh

import (
	"iter"
	"slices"

	"bushel/api"
)

// The nodes of a network are the places of a book, by their numbers, and two more.
const (
	outside  = api.MaxPlaces + iota // the outside of the terminal, to which the changes of the stocks flow, too
	together                        // on the way to the outside, where the changes of some stocks flow together
	nodes
)

// marks says of each node whether it is marked.
type marks [nodes]bool

// balance is how much more flows to each node than from it.
type balance [nodes]int

// arc is a mass that flows from a node to another one, and the range in which it may be.
type arc struct {
	api.Range
	from int
	to   int
	mass int
}

// network has an arc for each ticket of a book, by its number, and behind these one for the change of each stock, and one for that of joined stocks.
// Its masses are an assignment exactly if they are in their ranges, and as much flows to each node as from it.
type network struct {
	arcs []arc
	at   [nodes][]int // the arcs to or from each node
}

// newNetwork returns the network of a book, in which the changes of the stocks of joined places flow together. All masses are the least ones.
func newNetwork(b api.Book, joined []int) *network {
	n := &network{}
	for _, t := range b.Tickets {
		n.add(nodeOf(t.From), nodeOf(t.To), t.Mass)
	}
	sum := api.Range{}
	for place, r := range b.Stock {
		if slices.Contains(joined, place) {
			n.add(place, together, r)
			sum = plus(sum, r)
		} else {
			n.add(place, outside, r)
		}
	}
	n.add(together, outside, sum)
	return n
}

// nodeOf returns the node of a place of a ticket.
func nodeOf(place int) int {
	if place == -1 {
		return outside
	}
	return place
}

// add adds an arc with its least mass.
func (n *network) add(from, to int, r api.Range) {
	i := len(n.arcs)
	n.arcs = append(n.arcs, arc{Range: r, from: from, to: to, mass: r.Low})
	n.at[from] = append(n.at[from], i)
	n.at[to] = append(n.at[to], i)
}

// joined returns the arc of the change of the joined stocks.
func (n *network) joined() int { return len(n.arcs) - 1 }

// masses returns the masses of the first arcs.
func (n *network) masses(count int) []int {
	var l []int
	for _, a := range n.arcs[:count] {
		l = append(l, a.mass)
	}
	return l
}

// balance returns the balance of the masses.
func (n *network) balance() balance {
	var b balance
	for _, a := range n.arcs {
		b[a.from] -= a.mass
		b[a.to] += a.mass
	}
	return b
}

// signs marks the nodes that have too much, and those that have too little.
func (b balance) signs() (over, under marks) {
	for node, mass := range b {
		over[node], under[node] = mass > 0, mass < 0
	}
	return over, under
}

// step leads over an arc from one of its ends to the other one: along it what flows becomes more, and against it less.
type step struct {
	arc  int
	sign int // 1 along the arc, -1 against it
	from int
	to   int
	room int // by how much the mass can change so
}

// steps visits the steps from a node by which a mass can change.
func (n *network) steps(node int) iter.Seq[step] {
	return func(yield func(step) bool) {
		for _, i := range n.at[node] {
			a := n.arcs[i]
			s := step{arc: i, sign: 1, from: node, to: a.to, room: a.High - a.mass}
			if a.to == node {
				s = step{arc: i, sign: -1, from: node, to: a.from, room: a.mass - a.Low}
			}
			if s.room > 0 && !yield(s) {
				return
			}
		}
	}
}

// way returns a shortest way from one of some nodes to one of some others, if there is one, and else all nodes that can be reached from the first ones.
func (n *network) way(from, to marks) ([]step, marks) {
	reached := from
	var last [nodes]step // for each node behind the first ones that by which it is reached
	var queue []int
	for node := range nodes {
		if from[node] {
			queue = append(queue, node)
		}
	}
	end := -1
search:
	for len(queue) > 0 {
		node := queue[0]
		queue = queue[1:]
		for s := range n.steps(node) {
			if reached[s.to] {
				continue
			}
			reached[s.to], last[s.to] = true, s
			if to[s.to] {
				end = s.to
				break search
			}
			queue = append(queue, s.to)
		}
	}
	if end == -1 {
		return nil, reached
	}
	var way []step
	for node := end; !from[node]; node = last[node].from {
		way = append(way, last[node])
	}
	slices.Reverse(way)
	return way, marks{}
}

// even moves what some nodes have too much to those that have too little, as far as possible, and returns what is left.
// If anything is, more flows to the marked nodes than from them, though no mass from them can be greater, and none to them less.
func (n *network) even(left balance) (balance, marks) {
	for {
		// Shortest ways, so that their number does not depend on the masses.
		way, reached := n.way(left.signs())
		if len(way) == 0 {
			return left, reached
		}
		start, end := way[0].from, way[len(way)-1].to
		mass := min(left[start], -left[end])
		for _, s := range way {
			mass = min(mass, s.room)
		}
		for _, s := range way {
			n.arcs[s.arc].mass += s.sign * mass
		}
		left[start] -= mass
		left[end] += mass
	}
}

// settle makes the masses an assignment; if there is none, it returns false, and nodes to which more has to flow than can flow from them.
func (n *network) settle() (bool, marks) {
	left, reached := n.even(n.balance())
	return left == balance{}, reached
}

// stretch makes the masses, which are an assignment, one in which an arc has its greatest (or its least) mass, and returns this mass.
func (n *network) stretch(i int, high bool) int {
	a := n.arcs[i]
	wanted := a.Low - a.mass
	if high {
		wanted = a.High - a.mass
	}
	// What is wanted beyond the mass has to flow back on other ways: this arc is kept as it is.
	n.arcs[i].Range = api.Range{Low: a.mass, High: a.mass}
	var excess balance
	excess[a.to], excess[a.from] = wanted, -wanted
	left, _ := n.even(excess)
	a.mass += wanted - left[a.to]
	n.arcs[i] = a
	return a.mass
}

// extent returns the range from the least to the greatest mass of an arc over all assignments; the masses are one.
func (n *network) extent(i int) api.Range {
	return api.Range{Low: n.stretch(i, false), High: n.stretch(i, true)}
}
