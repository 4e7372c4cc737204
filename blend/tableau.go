package blend

import (
	"iter"
	"slices"

	"bushel/exact"
	"bushel/numbers"
)

// none is the number of no variable.
const none = -1

// The directions in which a variable moves.
const (
	down = -1
	up   = 1
)

// end is an end of what a variable may be, if there is one.
type end struct {
	at    exact.Number
	isSet bool
}

// at returns an end at a number.
func at(n exact.Number) end { return end{n, true} }

// variable is a variable of a linear program.
type variable struct {
	value   exact.Number
	low     end
	high    end
	isLoose bool
	place   int // its column if it is loose, and its row if not
}

// room returns how far a variable can move in a direction, and false if it has no end there.
func (v variable) room(direction int) (exact.Number, bool) {
	if direction == up {
		return v.high.at.Minus(v.value), v.high.isSet
	}
	return v.value.Minus(v.low.at), v.low.isSet
}

// canMove reports whether a variable can move in a direction.
func (v variable) canMove(direction int) bool {
	room, hasEnd := v.room(direction)
	return !hasEnd || room.Sign() > 0
}

// back returns the direction in which a variable has to move to come within its ends, with the nearest one, or 0 if it is within them.
func (v variable) back() (int, exact.Number) {
	if room, hasEnd := v.room(down); hasEnd && room.Sign() < 0 {
		return up, v.low.at
	}
	if room, hasEnd := v.room(up); hasEnd && room.Sign() < 0 {
		return down, v.high.at
	}
	return 0, exact.Number{}
}

// tableau is a linear program: some variables are loose, and each of the others, which are tied, is the sum of these times the factors of its row.
// Loose variables are always within their ends.
type tableau struct {
	variables []variable
	loose     []int
	tied      []int
	rows      [][]exact.Number
}

// newTableau returns a tableau without ends: its first variables are loose, and behind them comes one for each row.
func newTableau(rows [][]exact.Number) *tableau {
	t := &tableau{rows: rows}
	for column := range rows[0] {
		t.loose = append(t.loose, len(t.variables))
		t.variables = append(t.variables, variable{isLoose: true, place: column})
	}
	for row := range rows {
		t.tied = append(t.tied, len(t.variables))
		t.variables = append(t.variables, variable{place: row})
	}
	return t
}

// clone returns a copy, which can be changed alone. (Rows are replaced, never changed.)
func (t *tableau) clone() *tableau {
	return &tableau{slices.Clone(t.variables), slices.Clone(t.loose), slices.Clone(t.tied), slices.Clone(t.rows)}
}

// values returns the values of the first variables.
func (t *tableau) values(count int) []exact.Number {
	var l []exact.Number
	for _, v := range t.variables[:count] {
		l = append(l, v.value)
	}
	return l
}

// factor returns by how much a variable rises with a loose one.
func (t *tableau) factor(v, loose int) exact.Number {
	switch {
	case !t.variables[v].isLoose:
		return t.rows[t.variables[v].place][t.variables[loose].place]
	case v == loose:
		return exact.Whole(1)
	}
	return exact.Number{}
}

// factors returns the factors of all variables with which their sum is a given one; those that are not loose have 0.
func (t *tableau) factors(v int) []exact.Number {
	l := make([]exact.Number, len(t.variables))
	for _, loose := range t.loose {
		l[loose] = t.factor(v, loose)
	}
	return l
}

// keep sets the ends of a variable. A loose one goes to one of them.
func (t *tableau) keep(v int, low, high end) {
	x := &t.variables[v]
	x.low, x.high = low, high
	switch {
	case !x.isLoose:
	case high.isSet && (!low.isSet || x.value.Compare(high.at) >= 0):
		t.move(v, high.at.Minus(x.value))
	case low.isSet:
		t.move(v, low.at.Minus(x.value))
	}
}

// move moves a loose variable, and the others with it.
func (t *tableau) move(loose int, by exact.Number) {
	if by.Sign() == 0 {
		return
	}
	x := &t.variables[loose]
	x.value = x.value.Plus(by)
	for row, v := range t.tied {
		y := &t.variables[v]
		y.value = y.value.Plus(t.rows[row][x.place].Times(by))
	}
}

// exchange makes a loose variable tied, and a tied one loose.
func (t *tableau) exchange(loose, tied int) {
	row, column := t.variables[tied].place, t.variables[loose].place
	solved := solve(t.rows[row], column)
	for i, r := range t.rows {
		t.rows[i] = substitute(r, solved, column)
	}
	t.rows[row] = solved
	t.loose[column], t.tied[row] = tied, loose
	t.variables[loose].isLoose, t.variables[loose].place = false, row
	t.variables[tied].isLoose, t.variables[tied].place = true, column
}

// solve returns the row of the loose variable of a column, for that of the tied one with which it changes places.
func solve(row []exact.Number, column int) []exact.Number {
	inverse := exact.Whole(1).Over(row[column])
	solved := make([]exact.Number, len(row))
	for i, factor := range row {
		solved[i] = factor.Times(inverse).Negated()
	}
	solved[column] = inverse
	return solved
}

// substitute returns a row with a solved one in the place of the variable of a column.
func substitute(row, solved []exact.Number, column int) []exact.Number {
	if row[column].Sign() == 0 {
		return row
	}
	result := make([]exact.Number, len(row))
	for i, factor := range row {
		if i == column {
			factor = exact.Number{}
		}
		result[i] = factor.Plus(row[column].Times(solved[i]))
	}
	return result
}

// step is a move of a loose variable, and the tied one with which it then changes places, if there is one.
type step struct {
	loose int
	by    exact.Number
	tied  int
}

// run takes the steps that a function chooses, as long as it finds one.
func (t *tableau) run(choose func() (step, bool)) {
	for s, ok := choose(); ok; s, ok = choose() {
		t.move(s.loose, s.by)
		if s.tied != none {
			t.exchange(s.loose, s.tied)
		}
	}
}

// movers visits the loose variables that can move a variable in a direction, in ascending order, with their own directions.
// Taking the first one, here as elsewhere, is Bland's rule, by which no tableau comes again.
func (t *tableau) movers(v, direction int) iter.Seq2[int, int] {
	return func(yield func(int, int) bool) {
		for loose, x := range t.variables {
			if !x.isLoose {
				continue
			}
			own := direction * t.factor(v, loose).Sign()
			if own != 0 && x.canMove(own) && !yield(loose, own) {
				return
			}
		}
	}
}

// settle brings all variables within their ends. Where that is not possible, it returns false and a contradiction:
// factors of the variables with which their sum is always 0, though it is above 0 for all values within the ends.
func (t *tableau) settle() ([]exact.Number, bool) {
	var contradiction []exact.Number
	t.run(func() (step, bool) {
		found := step{tied: none}
	search:
		for v, x := range t.variables {
			direction, goal := x.back()
			if direction == 0 {
				continue
			}
			for loose := range t.movers(v, direction) {
				found = step{loose, goal.Minus(x.value).Over(t.factor(v, loose)), v}
				break search
			}
			contradiction = t.contradiction(v, direction)
			break search
		}
		return found, found.tied != none
	})
	return contradiction, contradiction == nil
}

// contradiction returns the contradiction that no loose variable can move a variable in a direction.
func (t *tableau) contradiction(v, direction int) []exact.Number {
	l := t.factors(v)
	for i := range l {
		l[i] = l[i].Times(exact.Whole(-direction))
	}
	l[v] = exact.Whole(direction)
	return l
}

// push moves a variable in a direction as far as the ends of all variables permit; some of them have to stop it.
// All variables have to be within their ends.
func (t *tableau) push(v, direction int) {
	t.run(func() (step, bool) {
		for loose, own := range t.movers(v, direction) {
			return t.reach(loose, own)
		}
		return step{}, false
	})
}

// reach returns the longest step of a loose variable in a direction that keeps all variables within their ends, and false if nothing ends it.
func (t *tableau) reach(loose, direction int) (step, bool) {
	length, isEnded := t.variables[loose].room(direction)
	first := none
	for v, x := range t.variables {
		factor := t.factor(v, loose)
		sign := factor.Sign()
		if x.isLoose || sign == 0 {
			continue
		}
		room, hasEnd := x.room(direction * sign)
		if !hasEnd {
			continue
		}
		until := room.Over(factor.Times(exact.Whole(sign)))
		if !isEnded || until.Compare(length) < 0 {
			length, isEnded, first = until, true, v
		}
	}
	return step{loose, length.Times(exact.Whole(direction)), first}, isEnded
}

// extent returns from where to where a variable can be, if it has ends, while all are within their ends.
func (t *tableau) extent(v int) numbers.Interval {
	t.push(v, down)
	low := t.variables[v].value
	t.push(v, up)
	return numbers.Interval{Low: low, High: t.variables[v].value}
}
