package weigh_test

import (
	"fmt"
	"math"
	"math/big"
	"math/rand"
	"slices"
	"testing"

	"bushel/api"
	"bushel/weigh"
)

// P3.1: weights.

const most = api.MaxMass

func TestCheckRange(t *testing.T) {
	for _, r := range []api.Range{{}, rng(0, 1), rng(-5, -5), rng(-most, most), rng(most, most), rng(-most, -most), rng(-1, 0)} {
		expect(t, fmt.Sprint(r), weigh.CheckRange(r), api.OK)
	}
	for _, bad := range badRanges() {
		expect(t, fmt.Sprint(bad.r), weigh.CheckRange(bad.r), bad.e)
	}
}

func TestNet(t *testing.T) {
	for _, row := range []struct {
		gross, tare, want api.Range
		e                 api.Errno
	}{
		{rng(14000, 14020), rng(4980, 5000), rng(9000, 9040), api.OK},
		{rng(100, 120), rng(110, 130), rng(0, 10), api.OK},
		{rng(100, 120), rng(120, 130), rng(0, 0), api.OK},
		{rng(100, 120), rng(121, 130), api.Range{}, api.ErrConflict},
		{rng(0, 0), rng(0, 0), rng(0, 0), api.OK},
		{rng(0, most), rng(0, most), rng(0, most), api.OK},
		{rng(most, most), rng(0, 0), rng(most, most), api.OK},
		{rng(0, 0), rng(most, most), api.Range{}, api.ErrConflict},
		{rng(10, 20), rng(10, 10), rng(0, 10), api.OK},
		{rng(10, 20), rng(5, 9), rng(1, 15), api.OK},
	} {
		got, e := weigh.Net(row.gross, row.tare)
		what := fmt.Sprint("Net of ", row.gross, row.tare)
		expect(t, what, e, row.e)
		expect(t, what, got, row.want)
	}
	for _, bad := range badMasses() {
		for _, args := range [][2]api.Range{{bad.r, rng(0, 0)}, {bad.r, rng(2, 1)}, {bad.r, rng(-1, 0)}, {rng(0, 0), bad.r}} {
			got, e := weigh.Net(args[0], args[1])
			expect(t, fmt.Sprint("Net of ", args), e, bad.e)
			expect(t, fmt.Sprint("Net of ", args), got, api.Range{})
		}
	}
}

func TestNetAgainstAllMasses(t *testing.T) {
	r := rand.New(rand.NewSource(31))
	for range 2000 {
		gross, tare := rng(r.Intn(9), 0), rng(r.Intn(9), 0)
		gross.High, tare.High = gross.Low+r.Intn(5), tare.Low+r.Intn(5)
		var masses [][]int
		for g := gross.Low; g <= gross.High; g++ {
			for w := tare.Low; w <= min(g, tare.High); w++ {
				masses = append(masses, []int{g - w})
			}
		}
		got, e := weigh.Net(gross, tare)
		what := fmt.Sprint("Net of ", gross, tare)
		if len(masses) == 0 {
			expect(t, what, e, api.ErrConflict)
			continue
		}
		expect(t, what, e, api.OK)
		expect(t, what, got, hull(masses, func(l []int) int { return l[0] }))
	}
}

func TestDrafts(t *testing.T) {
	for _, row := range []struct {
		what string
		l    []api.Range
		want api.Range
		e    api.Errno
	}{
		{"the example", []api.Range{rng(10, 12), rng(20, 21), rng(5, 5)}, rng(35, 38), api.OK},
		{"one", []api.Range{rng(3, 7)}, rng(3, 7), api.OK},
		{"nothing in them", []api.Range{{}, {}}, api.Range{}, api.OK},
		{"the greatest sum", []api.Range{rng(0, most-1), rng(0, 1)}, rng(0, most), api.OK},
		{"a sum that is too great", []api.Range{rng(0, most), rng(0, 1)}, api.Range{}, api.ErrLarge},
		{"the most drafts", slices.Repeat([]api.Range{rng(1, 2)}, api.MaxList), rng(256, 512), api.OK},
		{"the greatest drafts", slices.Repeat([]api.Range{rng(most, most)}, api.MaxList), api.Range{}, api.ErrLarge},
	} {
		got, e := weigh.Drafts(row.l)
		expect(t, row.what, e, row.e)
		expect(t, row.what, got, row.want)
	}
}

// TestLists is about the errors of a list of masses.
func TestLists(t *testing.T) {
	for what, f := range map[string]func([]api.Range) (api.Range, api.Errno){"Drafts": weigh.Drafts, "Agree": weigh.Agree} {
		for _, row := range []struct {
			l []api.Range
			e api.Errno
		}{
			{nil, api.ErrShape}, {[]api.Range{}, api.ErrShape},
			{slices.Repeat([]api.Range{rng(1, 1)}, api.MaxList+1), api.ErrMany},
			{slices.Repeat([]api.Range{rng(2, 1)}, api.MaxList+1), api.ErrMany},
		} {
			got, e := f(row.l)
			expect(t, what, e, row.e)
			expect(t, what, got, api.Range{})
		}
		for _, bad := range badMasses() {
			for _, l := range [][]api.Range{
				{bad.r}, {rng(1, 1), bad.r}, {bad.r, rng(2, 1)}, {bad.r, rng(-1, 1)}, {rng(0, most), rng(most, most), bad.r}, {rng(0, 1), rng(2, 3), bad.r},
			} {
				got, e := f(l)
				expect(t, fmt.Sprint(what, " of ", l), e, bad.e)
				expect(t, fmt.Sprint(what, " of ", l), got, api.Range{})
			}
		}
	}
}

func TestAgree(t *testing.T) {
	for _, row := range []struct {
		what string
		l    []api.Range
		want api.Range
		e    api.Errno
	}{
		{"one", []api.Range{rng(3, 7)}, rng(3, 7), api.OK},
		{"three", []api.Range{rng(0, 5), rng(2, 9), rng(1, 4)}, rng(2, 4), api.OK},
		{"one mass", []api.Range{rng(0, 5), rng(5, 9)}, rng(5, 5), api.OK},
		{"next to each other", []api.Range{rng(0, 5), rng(6, 9)}, api.Range{}, api.ErrConflict},
		{"the other way round", []api.Range{rng(6, 9), rng(0, 5)}, api.Range{}, api.ErrConflict},
		{"the last one", []api.Range{rng(0, 5), rng(2, 9), rng(0, 1)}, api.Range{}, api.ErrConflict},
		{"the greatest ones", slices.Repeat([]api.Range{rng(most, most)}, api.MaxList), rng(most, most), api.OK},
		{"no mass", []api.Range{rng(0, 9), {}}, api.Range{}, api.OK},
	} {
		got, e := weigh.Agree(row.l)
		expect(t, row.what, e, row.e)
		expect(t, row.what, got, row.want)
	}
}

func TestDrift(t *testing.T) {
	for _, row := range []struct {
		what          string
		shown         []int
		before, after api.Range
		want          []api.Range
		e             api.Errno
	}{
		{"the example", []int{1000, 1000}, rng(0, 0), rng(3, 6), []api.Range{rng(998, 999), rng(996, 998)}, api.OK},
		{"one draft", []int{1000}, rng(0, 0), rng(1, 1), []api.Range{rng(999, 1000)}, api.OK},
		{"too little", []int{1000}, rng(0, 0), rng(-1, -1), []api.Range{rng(1000, 1001)}, api.OK},
		{"no drift", []int{5, 0, 7}, rng(2, 2), rng(2, 2), []api.Range{rng(3, 3), rng(-2, -2), rng(5, 5)}, api.OK},
		{"an unknown error", []int{5}, rng(-1, 2), rng(-2, 2), []api.Range{rng(3, 7)}, api.OK},
		{"a negative result", []int{0}, rng(0, 0), rng(1, 1), []api.Range{rng(-1, 0)}, api.OK},
		{"the greatest masses", []int{most, most}, rng(0, 0), rng(0, 0), []api.Range{rng(most, most), rng(most, most)}, api.OK},
		{"the greatest errors", []int{most}, rng(most, most), rng(most, most), []api.Range{rng(0, 0)}, api.OK},
		{"the greatest ones of both", []int{0}, rng(most, most), rng(most, most), []api.Range{rng(-most, -most)}, api.OK},
		{"the least ones", []int{0}, rng(-most, -most), rng(-most, -most), []api.Range{rng(most, most)}, api.OK},
		{"a result that is hardly too great", []int{most}, rng(0, 0), rng(-1, 0), nil, api.ErrLarge},
		{"one that is far too great", []int{1, most}, rng(-most, -most), rng(-most, -most), nil, api.ErrLarge},
		{"the last draft alone", []int{0, 0, most}, rng(0, 0), rng(-1, 0), nil, api.ErrLarge},
		{"none", nil, rng(0, 0), rng(0, 0), nil, api.ErrShape},
		{"none and bad ranges", []int{}, rng(1, 0), rng(most+1, 0), nil, api.ErrShape},
		{"too many", slices.Repeat([]int{-1}, api.MaxList+1), rng(1, 0), rng(1, 0), nil, api.ErrMany},
		{"a negative mass", []int{1, -1}, rng(1, 0), rng(1, 0), nil, api.ErrRange},
		{"a mass that is too great", []int{1, most + 1}, rng(1, 0), rng(1, 0), nil, api.ErrRange},
		{"the extremes", []int{math.MinInt, math.MaxInt}, rng(0, 0), rng(0, 0), nil, api.ErrRange},
	} {
		got, e := weigh.Drift(row.shown, row.before, row.after)
		expect(t, row.what, e, row.e)
		expectList(t, row.what, got, row.want)
	}
	for _, bad := range badRanges() {
		for _, args := range [][2]api.Range{{bad.r, rng(0, 0)}, {bad.r, rng(2, 1)}, {bad.r, rng(most+1, 0)}, {rng(-most, most), bad.r}} {
			got, e := weigh.Drift([]int{most, 5}, args[0], args[1])
			expect(t, fmt.Sprint("Drift with ", args), e, bad.e)
			expectList(t, fmt.Sprint("Drift with ", args), got, nil)
		}
	}
}

// trueEnd returns what is shown in draft number k of n less the drift from a to b, rounded down, or up.
func trueEnd(shown, k, n, a, b int, up bool) int {
	mean := big.NewRat(int64(a)*int64(n+1-k)+int64(b)*int64(k), int64(n+1))
	exact := new(big.Rat).Sub(big.NewRat(int64(shown), 1), mean)
	// Div of math/big rounds down for positive divisors.
	whole := int(new(big.Int).Div(exact.Num(), exact.Denom()).Int64())
	if up && !exact.IsInt() {
		return whole + 1
	}
	return whole
}

func TestDriftAgainstBig(t *testing.T) {
	r := rand.New(rand.NewSource(32))
	for i := range 500 {
		n, size := 1+r.Intn(20), 30
		if i%5 == 0 {
			n, size = api.MaxList, most/3
		}
		before, after := randomRange(r, r.Intn(size)-size/2, size/2), randomRange(r, r.Intn(size)-size/2, size/2)
		var shown []int
		var want []api.Range
		for k := range n {
			shown = append(shown, r.Intn(size))
			want = append(want, rng(trueEnd(shown[k], k+1, n, before.High, after.High, false), trueEnd(shown[k], k+1, n, before.Low, after.Low, true)))
		}
		got, e := weigh.Drift(shown, before, after)
		what := fmt.Sprint("Drift with ", before, after)
		expect(t, what, e, api.OK)
		expect(t, what, got, want)
	}
}
