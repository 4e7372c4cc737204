package blend

import (
	"math/rand"
	"testing"

	"bushel/api"
	"bushel/exact"
	"bushel/numbers"
)

// These tests are about parts that other ones need only where numbers are long.

// TestSimplest checks the simplest numbers of small intervals: no other one in them has a lesser denominator, or the same and a lesser numerator.
func TestSimplest(t *testing.T) {
	ratio := func(a, b int) exact.Number { return exact.Whole(a).Over(exact.Whole(b)) }
	size := func(n int) int { return max(n, -n) }
	for below := 1; below <= 7; below++ {
		for low := -20; low <= 20; low++ {
			for high := low; high <= low+15; high++ {
				i := numbers.Interval{Low: ratio(low, below), High: ratio(high, below+2)}
				if i.High.Compare(i.Low) < 0 {
					continue
				}
				top, bottom := 0, 0
				for b := 1; bottom == 0; b++ {
					for a := -30 * b; a <= 30*b; a++ {
						n := ratio(a, b)
						isIn := n.Compare(i.Low) >= 0 && n.Compare(i.High) <= 0
						if isIn && (bottom == 0 || size(a) < size(top)) {
							top, bottom = a, b
						}
					}
				}
				if got := simplest(i); got.Compare(ratio(top, bottom)) != 0 {
					text, _ := got.Text(99)
					t.Errorf("from %d/%d to %d/%d: got %s, want %d/%d", low, below, high, below+2, text, top, bottom)
				}
			}
		}
	}
}

// TestPricesForSettings checks that prices for single settings that are no blends prove any cost, and that those for costs above 0 are no longer than they have to be.
func TestPricesForSettings(t *testing.T) {
	r := rand.New(rand.NewSource(61))
	rises := map[int]int{}
	for range 2000 {
		var sources []api.Source
		var setting []int
		for range 1 + r.Intn(3) {
			q := api.Span{Low: []api.Rat{"12", "13"}[r.Intn(2)], High: []api.Rat{"14", "29/2"}[r.Intn(2)]}
			sources = append(sources, api.Source{Stock: 6, Cost: []api.Rat{"-1", "1/3", "2"}[r.Intn(3)], Quality: []api.Span{q, q}})
			setting = append(setting, r.Intn(3))
		}
		order := api.Order{Mass: 1 + r.Intn(12), Least: []api.Rat{"25/2", ""}, Most: []api.Rat{"", "57/4"}}
		g, e := readGated(sources, order, api.Gates{Step: 2, Most: 2})
		if e != api.OK {
			t.Fatal(e)
		}
		if g.isBlend(g.amounts(setting)) {
			continue
		}
		s := newSearch(g)
		s.goal = exact.Whole(r.Intn(200)).Over(exact.Whole(7))
		b := single(setting)
		x := s.pricesForSetting(b)
		bound, ways := s.boxBound(proof{b, x}), s.rises(b, &x)
		rises[len(ways)]++
		if bound.Compare(s.goal) < 0 {
			t.Errorf("%v %v %v: the bound is too low", sources, order, setting)
		}
		// The steepest price is whole, and one less would be too little.
		below := bound.Minus(ways[0].by)
		if below.Compare(s.goal) >= 0 && ways[0].price.Times(exact.Whole(ways[0].sign)).Compare(exact.Whole(1)) > 0 {
			t.Errorf("%v %v %v: the price is too high", sources, order, setting)
		}
	}
	if rises[1] < 100 || rises[2] < 100 || rises[3] < 20 {
		t.Errorf("%v: the sample is one-sided", rises)
	}
}

// TestPricesForSettingsThatNeedMany checks that prices stay short, and that others help where one is not enough.
func TestPricesForSettingsThatNeedMany(t *testing.T) {
	q := api.Span{Low: "0", High: "2"}
	sources := []api.Source{{Stock: 9, Cost: "0", Quality: []api.Span{q, q}}}
	g, _ := readGated(sources, api.Order{Mass: 2, Least: []api.Rat{"", ""}, Most: []api.Rat{"1", "0"}}, api.Gates{Step: 1, Most: 1})
	most := numbers.Greatest()
	for _, row := range [][4]int{{0, 0, 1, 0}, {1, 0, 1, 0}, {4, 0, 1, 0}, {4, 1, 1, 1}, {5, 0, 1, 1}, {6, 0, 1, 1}, {7, 0, 1, 1}} {
		s := newSearch(g)
		s.goal = most.Times(exact.Whole(row[0])).Plus(exact.Whole(row[1]))
		x := s.pricesForSetting(single([]int{2}))
		// The excess over the second limit is 4, and that over the first one 2.
		isUsed := [2]bool{x.limits[1].Sign() > 0, x.limits[0].Sign() > 0}
		isShort := x.limits[0].Compare(most) <= 0 && x.limits[1].Compare(most) <= 0
		isEnough := s.boxBound(proof{single([]int{2}), x}).Compare(s.goal) >= 0
		if isUsed != [2]bool{row[2] == 1, row[3] == 1} || !isShort || isEnough != (row[0] <= 6) {
			t.Errorf("%v: used %v, short %v, enough %v", row, isUsed, isShort, isEnough)
		}
	}
}
