package grade_test

import (
	"fmt"
	"math/big"
	"math/rand"
	"slices"
	"strings"
	"testing"

	"bushel/api"
	"bushel/grade"
)

// P2.1: the gap.

func TestGap(t *testing.T) {
	quincunx, _ := grade.Pattern("quincunx", 5, 400, 200)
	for _, row := range []struct {
		what          string
		l             []api.Probe
		length, width int
		want          api.Rat
	}{
		{"the example", quincunx, 400, 200, "12500"},
		{"the centre", []api.Probe{probe("2", "3/2")}, 4, 3, "25/4"},
		{"a corner", []api.Probe{probe("0", "0")}, 4, 3, "25"},
		{"the opposite corner", []api.Probe{probe("4", "3")}, 4, 3, "25"},
		{"all corners", []api.Probe{probe("0", "0"), probe("4", "0"), probe("0", "2"), probe("4", "2")}, 4, 2, "5"},
		{"two corners of a side", []api.Probe{probe("0", "0"), probe("4", "0")}, 4, 3, "13"},
		{"opposite corners", []api.Probe{probe("0", "0"), probe("2", "2")}, 2, 2, "4"},
		{"the corners and the centre", []api.Probe{probe("0", "0"), probe("2", "0"), probe("0", "2"), probe("2", "2"), probe("1", "1")}, 2, 2, "1"},
		{"a circle inside", []api.Probe{probe("0", "0"), probe("10", "0"), probe("5", "10")}, 10, 10, "625/16"},
		{"two close ones", []api.Probe{probe("1/3", "1/7"), probe("1/3", "1/8")}, 1, 1, "520/441"},
	} {
		gap, e := grade.Gap(row.l, row.length, row.width)
		expect(t, row.what, e, api.OK)
		expect(t, row.what, gap, row.want)
	}
}

func TestGapOfRegularPatterns(t *testing.T) {
	for n := 1; n <= 8; n++ {
		l, _ := grade.Pattern("grid", n, 840, 1680)
		gap, e := grade.Gap(l, 840, 1680)
		expect(t, "Gap of a grid", e, api.OK)
		expect(t, "Gap of a grid", gap, ofBig(big.NewRat(int64(840*840+1680*1680), int64(4*n*n))))
	}
	for _, n := range []int{1, 2, 7, 64} {
		l, _ := grade.Pattern("line", n, 999, 1000)
		gap, e := grade.Gap(l, 999, 1000)
		want := big.NewRat(999*999, int64(4*n*n))
		expect(t, "Gap of a line", e, api.OK)
		expect(t, "Gap of a line", gap, ofBig(want.Add(want, big.NewRat(250000, 1))))
	}
}

// line is the line on which x X + y Y = at.
type line [3]*big.Rat

// linesOf returns the sides of a rectangle, and the lines halfway between any two probes.
func linesOf(l []api.Probe, length, width int) []line {
	zero, one := new(big.Rat), big.NewRat(1, 1)
	lines := []line{{one, zero, zero}, {one, zero, big.NewRat(int64(length), 1)}, {zero, one, zero}, {zero, one, big.NewRat(int64(width), 1)}}
	squared := func(p api.Probe) *big.Rat { return distance(toBig(p.X), toBig(p.Y), api.Probe{X: "0", Y: "0"}) }
	two := big.NewRat(2, 1)
	for i, p := range l {
		for _, q := range l[:i] {
			x := new(big.Rat).Sub(toBig(q.X), toBig(p.X))
			y := new(big.Rat).Sub(toBig(q.Y), toBig(p.Y))
			lines = append(lines, line{x.Mul(x, two), y.Mul(y, two), new(big.Rat).Sub(squared(q), squared(p))})
		}
	}
	return lines
}

// distance returns the squared distance of a point from a probe.
func distance(x, y *big.Rat, p api.Probe) *big.Rat {
	dx, dy := new(big.Rat).Sub(x, toBig(p.X)), new(big.Rat).Sub(y, toBig(p.Y))
	return dx.Add(dx.Mul(dx, dx), dy.Mul(dy, dy))
}

// nearest returns the squared distance of a point from the nearest probe.
func nearest(x, y *big.Rat, l []api.Probe) *big.Rat {
	var best *big.Rat
	for _, p := range l {
		if d := distance(x, y, p); best == nil || d.Cmp(best) < 0 {
			best = d
		}
	}
	return best
}

// gapOf returns the gap: where the distance from the nearest probe is greatest two of these lines meet.
func gapOf(l []api.Probe, length, width int) *big.Rat {
	gap := new(big.Rat)
	lines := linesOf(l, length, width)
	product := func(a, b *big.Rat) *big.Rat { return new(big.Rat).Mul(a, b) }
	determinant := func(a, b, c, d *big.Rat) *big.Rat { return new(big.Rat).Sub(product(a, d), product(b, c)) }
	for i, a := range lines {
		for _, b := range lines[:i] {
			d := determinant(a[0], a[1], b[0], b[1])
			if d.Sign() == 0 {
				continue
			}
			x, y := determinant(a[2], a[1], b[2], b[1]), determinant(a[0], a[2], b[0], b[2])
			x, y = x.Quo(x, d), y.Quo(y, d)
			if x.Sign() < 0 || y.Sign() < 0 || x.Cmp(big.NewRat(int64(length), 1)) > 0 || y.Cmp(big.NewRat(int64(width), 1)) > 0 {
				continue
			}
			if n := nearest(x, y, l); n.Cmp(gap) > 0 {
				gap = n
			}
		}
	}
	return gap
}

// randomProbes returns probes at different points whose coordinates are multiples of side / parts.
func randomProbes(r *rand.Rand, n, parts, length, width int) []api.Probe {
	var l []api.Probe
	for len(l) < n {
		x := ofBig(big.NewRat(int64(r.Intn(parts+1)*length), int64(parts)))
		y := ofBig(big.NewRat(int64(r.Intn(parts+1)*width), int64(parts)))
		if !slices.ContainsFunc(l, func(p api.Probe) bool { return p.X == x && p.Y == y }) {
			l = append(l, api.Probe{X: x, Y: y, Weight: 1 + r.Intn(api.MaxNumber)})
		}
	}
	return l
}

func TestGapAgainstAllCrossings(t *testing.T) {
	r := rand.New(rand.NewSource(11))
	for i := range 300 {
		n, parts := 1+r.Intn(6), []int{2, 4, 7, 1000}[i%4]
		if i%50 == 0 {
			n = 11
			parts = 12
		}
		length, width := 1+r.Intn(20), 1+r.Intn(20)
		l := randomProbes(r, n, parts, length, width)
		gap, e := grade.Gap(l, length, width)
		expect(t, "Gap", e, api.OK)
		expect(t, fmt.Sprint("Gap of ", l, " on ", length, " by ", width), gap, ofBig(gapOf(l, length, width)))
	}
}

func TestGapOfManyProbes(t *testing.T) {
	r := rand.New(rand.NewSource(12))
	for _, parts := range []int{8, 100, 100000} {
		l := randomProbes(r, api.MaxPoints, parts, 100000, 99991)
		before := slices.Clone(l)
		gap, e := grade.Gap(l, 100000, 99991)
		expect(t, "Gap", e, api.OK)
		expect(t, "the argument of Gap", l, before)
		// The order of the probes does not matter, and no point is farther from all of them.
		slices.Reverse(l)
		again, _ := grade.Gap(l, 100000, 99991)
		expect(t, "Gap of the reversed list", again, gap)
		for range 300 {
			x, y := big.NewRat(int64(r.Intn(100001)), 1), big.NewRat(int64(r.Intn(99992)), 1)
			if nearest(x, y, l).Cmp(toBig(gap)) > 0 {
				t.Fatalf("a point is farther than the gap: %v %v", x, y)
			}
		}
	}
}

func TestGapOfLongNumbers(t *testing.T) {
	tiny := func(digits int) api.Rat { return api.Rat("1/1" + strings.Repeat("0", digits)) }
	// The denominator of the gap is that of the coordinate, squared.
	gap, e := grade.Gap([]api.Probe{probe(tiny(299), "0")}, 1, 1)
	expect(t, "Gap with a denominator of 599 digits", e, api.OK)
	expect(t, "Gap with a denominator of 599 digits", gap, ofBig(nearest(big.NewRat(1, 1), big.NewRat(1, 1), []api.Probe{probe(tiny(299), "0")})))
	gap, e = grade.Gap([]api.Probe{probe(tiny(300), "0")}, 1, 1)
	expect(t, "Gap with a denominator of 601 digits", e, api.ErrLarge)
	expect(t, "Gap with a denominator of 601 digits", gap, api.Rat(""))
	// The numbers on the way have far more digits than the gap, which is that of the corner at 1 and 1 from the probe at 0 and 0.
	l := []api.Probe{probe("0", "0"), probe(tiny(599), tiny(599)), probe(tiny(598), tiny(597)), probe("1/"+nines(600), "0")}
	gap, e = grade.Gap(append(l, probe("1", "0"), probe("0", "1"), probe("1", "1")), 1, 1)
	expect(t, "Gap beside long numbers", e, api.ErrLarge)
	expect(t, "Gap beside long numbers", gap, api.Rat(""))
	// A probe with long coordinates beside the centre decides nothing: the farthest point is that between the others.
	l = []api.Probe{probe("0", "0"), probe("0", "1"), probe(tiny(599), "0")}
	gap, e = grade.Gap(append(l, probe("2", "0"), probe("2", "1")), 4, 1)
	expect(t, "Gap with numbers on the way", e, api.OK)
	expect(t, "Gap with numbers on the way", gap, api.Rat("17/4"))
}
