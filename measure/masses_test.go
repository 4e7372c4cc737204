package measure_test

import (
	"cmp"
	"math/big"
	"math/rand"
	"slices"
	"strconv"
	"strings"
	"testing"

	"bushel/api"
	"bushel/measure"
)

// P1.3: whole kilograms in proportion.

func TestApportion(t *testing.T) {
	for _, row := range []struct {
		total   int
		weights []int
		want    []int
	}{
		{10, []int{1, 1, 1}, []int{4, 3, 3}}, {11, []int{1, 1, 1}, []int{4, 4, 3}}, {12, []int{1, 1, 1}, []int{4, 4, 4}},
		{7, []int{3, 0, 1}, []int{5, 0, 2}}, {0, []int{5}, []int{0}}, {0, []int{5, 7, 0}, []int{0, 0, 0}}, {9, []int{5}, []int{9}},
		{1, []int{1, 1}, []int{1, 0}}, {1, []int{1, 2}, []int{0, 1}}, {1, []int{0, 0, 1}, []int{0, 0, 1}}, {3, []int{1, 2, 1, 2}, []int{1, 1, 0, 1}},
		{5, []int{1, 3, 3, 1}, []int{1, 2, 2, 0}}, {2, []int{1, 1, 1, 1, 1}, []int{1, 1, 0, 0, 0}},
		{999999999, []int{999999999, 999999999}, []int{500000000, 499999999}}, {999999999, []int{999999999, 1}, []int{999999998, 1}},
		{999999999, []int{1, 999999999, 0}, []int{1, 999999998, 0}},
	} {
		got, e := measure.Apportion(row.total, row.weights)
		expect(t, "Apportion", e, api.OK)
		expect(t, "Apportion", got, row.want)
	}
}

func TestApportionErrors(t *testing.T) {
	for _, row := range []struct {
		total   int
		weights []int
		e       api.Errno
	}{
		{-1, []int{1}, api.ErrRange}, {1000000000, []int{1}, api.ErrRange}, {-1 << 63, nil, api.ErrRange}, {1<<63 - 1, nil, api.ErrRange}, {-1, make([]int, 257), api.ErrRange},
		{1, nil, api.ErrShape}, {0, []int{}, api.ErrShape}, {1, make([]int, 257), api.ErrMany}, {1, slices.Repeat([]int{-1}, 257), api.ErrMany},
		{1, []int{-1, 2}, api.ErrRange}, {1, []int{2, 1000000000}, api.ErrRange}, {1, []int{0, -1}, api.ErrRange}, {1, []int{1 << 62, 1 << 62}, api.ErrRange}, {1, []int{-1, 1}, api.ErrRange},
		{1, []int{0, 0}, api.ErrZero}, {0, []int{0}, api.ErrZero}, {1, make([]int, 256), api.ErrZero},
	} {
		got, e := measure.Apportion(row.total, row.weights)
		expect(t, "Apportion", e, row.e)
		expect(t, "Apportion", len(got), 0)
	}
}

// apportioned returns what Apportion promises, in the most direct way: kilogram by kilogram to the greatest remainder that is left.
func apportioned(total int, weights []int) []int {
	sum := 0
	for _, w := range weights {
		sum += w
	}
	parts, rests, left := make([]int, len(weights)), make([]int, len(weights)), total
	for i, w := range weights {
		parts[i], rests[i] = total*w/sum, total*w%sum
		left -= parts[i]
	}
	for range left {
		best := 0
		for i := range rests {
			if rests[i] > rests[best] {
				best = i
			}
		}
		parts[best]++
		rests[best] = -1
	}
	return parts
}

func TestApportionOfManyWeights(t *testing.T) {
	r := rand.New(rand.NewSource(4))
	for i := range 1000 {
		weights := make([]int, 1+r.Intn(256))
		for k := range weights {
			weights[k] = r.Intn([]int{2, 5, 1000, 1000000000}[i%4])
		}
		weights[r.Intn(len(weights))] = 1
		total := r.Intn([]int{10, 300, 1000000000}[i%3])
		given := slices.Clone(weights)
		got, e := measure.Apportion(total, weights)
		expect(t, "Apportion", e, api.OK)
		expect(t, "Apportion", got, apportioned(total, weights))
		expect(t, "the weights behind Apportion", weights, given)
	}
}

// P1.3: shares and layers.

// alone returns the shares of a single lot.
func alone(lot string) []api.Share { return []api.Share{{Lot: lot, Part: "1"}} }

// halves returns shares of two lots.
func halves(a, b string) []api.Share {
	return []api.Share{{Lot: a, Part: "1/2"}, {Lot: b, Part: "1/2"}}
}

// evenShares returns equal shares of so many lots, whose names begin with a text.
func evenShares(n int, name string) []api.Share {
	var l []api.Share
	for i := range n {
		l = append(l, api.Share{Lot: name + strconv.Itoa(1000+i), Part: api.Rat("1/" + strconv.Itoa(n))})
	}
	return l
}

// badShares returns lists of shares with their errors.
func badShares() map[string]struct {
	l []api.Share
	e api.Errno
} {
	type row = struct {
		l []api.Share
		e api.Errno
	}
	return map[string]row{
		"nil":                {nil, api.ErrShape},
		"none":               {[]api.Share{}, api.ErrShape},
		"too many":           {evenShares(65, "x"), api.ErrMany},
		"too many bad ones":  {make([]api.Share, 65), api.ErrMany},
		"an empty one":       {make([]api.Share, 1), api.ErrName},
		"no name":            {alone("a b"), api.ErrName},
		"a long name":        {alone(strings.Repeat("x", 25)), api.ErrName},
		"order":              {halves("b", "a"), api.ErrOrder},
		"twice":              {halves("a", "a"), api.ErrOrder},
		"order by bytes":     {halves("a", "B"), api.ErrOrder},
		"order of a prefix":  {halves("lot-10", "lot-1"), api.ErrOrder},
		"name before part":   {[]api.Share{{Lot: "!", Part: "x"}}, api.ErrName},
		"order before part":  {[]api.Share{{Lot: "b", Part: "1/2"}, {Lot: "a", Part: "x"}}, api.ErrOrder},
		"first share first":  {[]api.Share{{Lot: "b", Part: "-1"}, {Lot: "a", Part: "1"}}, api.ErrShare},
		"name behind a part": {[]api.Share{{Lot: "a", Part: "2"}, {Lot: "", Part: "1"}}, api.ErrName},
		"no number":          {[]api.Share{{Lot: "a", Part: "2/2"}}, api.ErrForm},
		"a long number":      {[]api.Share{{Lot: "a", Part: api.Rat("1/" + nines(601))}}, api.ErrLarge},
		"0":                  {[]api.Share{{Lot: "a", Part: "0"}, {Lot: "b", Part: "1"}}, api.ErrShare},
		"0 last":             {[]api.Share{{Lot: "a", Part: "1"}, {Lot: "b", Part: "0"}}, api.ErrShare},
		"negative":           {[]api.Share{{Lot: "a", Part: "3/2"}, {Lot: "b", Part: "-1/2"}}, api.ErrShare},
		"too little":         {[]api.Share{{Lot: "a", Part: "1/2"}}, api.ErrShare},
		"too much":           {[]api.Share{{Lot: "a", Part: "1/2"}, {Lot: "b", Part: "2/3"}}, api.ErrShare},
		"nearly":             {[]api.Share{{Lot: "a", Part: api.Rat(nines(599) + "8/" + nines(600))}}, api.ErrShare},
		"nearly 1 of two":    {[]api.Share{{Lot: "a", Part: "1/3"}, {Lot: "b", Part: "333333333/500000000"}}, api.ErrShare},
		"2":                  {[]api.Share{{Lot: "a", Part: "2"}}, api.ErrShare},
	}
}

func TestCheckShares(t *testing.T) {
	third := api.Rat("1/" + nines(600))
	rest := api.Rat(nines(599) + "8/" + nines(600))
	for _, l := range [][]api.Share{alone("a"), alone(strings.Repeat("x", 24)), halves("a", "b"), halves("B", "a"), halves("a", "aa"), halves("-", "_"), halves("lot-1", "lot-10"),
		evenShares(64, "x"), {{Lot: "a", Part: third}, {Lot: "b", Part: rest}}, {{Lot: "a", Part: "1/2"}, {Lot: "b", Part: "1/3"}, {Lot: "c", Part: "1/6"}}} {
		expect(t, "CheckShares", measure.CheckShares(l), api.OK)
	}
	for name, row := range badShares() {
		expect(t, "CheckShares: "+name, measure.CheckShares(row.l), row.e)
	}
}

func TestCheckSharesHasNoLimitOnTheWay(t *testing.T) {
	// Pairs of shares with a denominator of their own, of 600 digits, in each of which the sum is 1/32.
	r := rand.New(rand.NewSource(5))
	var l []api.Share
	for i := range 32 {
		part := new(big.Rat).SetFrac(big.NewInt(1), randomLong(r))
		rest := new(big.Rat).Sub(big.NewRat(1, 32), part)
		a, _ := ofBig(part)
		b, e := ofBig(rest)
		expect(t, "the other part", e, api.OK)
		l = append(l, api.Share{Lot: "a" + strconv.Itoa(10+i), Part: a}, api.Share{Lot: "b" + strconv.Itoa(10+i), Part: b})
	}
	slices.SortFunc(l, func(a, b api.Share) int { return cmp.Compare(a.Lot, b.Lot) })
	expect(t, "CheckShares of long parts", measure.CheckShares(l), api.OK)
	l[0].Part = l[1].Part
	expect(t, "CheckShares of other long parts", measure.CheckShares(l), api.ErrShare)
}

func TestCheckLayer(t *testing.T) {
	for _, l := range []api.Layer{{Grain: "rye", Mass: 1, Shares: alone("a")}, {Grain: "rye", Mass: 999999999, Shares: halves("a", "b")}, {Grain: strings.Repeat("x", 24), Mass: 5, Shares: evenShares(64, "x")}} {
		expect(t, "CheckLayer", measure.CheckLayer(l), api.OK)
	}
	for _, row := range []struct {
		l api.Layer
		e api.Errno
	}{
		{api.Layer{}, api.ErrName}, {api.Layer{Mass: 1, Shares: alone("a")}, api.ErrName}, {api.Layer{Grain: "r e", Mass: 0}, api.ErrName}, {api.Layer{Grain: strings.Repeat("x", 25), Mass: 1, Shares: alone("a")}, api.ErrName},
		{api.Layer{Grain: "rye", Shares: alone("a")}, api.ErrRange}, {api.Layer{Grain: "rye", Mass: -1}, api.ErrRange}, {api.Layer{Grain: "rye", Mass: 1000000000, Shares: alone("a")}, api.ErrRange},
	} {
		expect(t, "CheckLayer", measure.CheckLayer(row.l), row.e)
	}
	for name, row := range badShares() {
		expect(t, "CheckLayer: "+name, measure.CheckLayer(api.Layer{Grain: "rye", Mass: 1, Shares: row.l}), row.e)
	}
}

// P1.3: mixtures.

func TestMix(t *testing.T) {
	for _, row := range []struct {
		l    []api.Layer
		want api.Layer
	}{
		{[]api.Layer{{Grain: "wheat", Mass: 600, Shares: alone("a")}, {Grain: "wheat", Mass: 400, Shares: halves("a", "b")}},
			api.Layer{Grain: "wheat", Mass: 1000, Shares: []api.Share{{Lot: "a", Part: "4/5"}, {Lot: "b", Part: "1/5"}}}},
		{[]api.Layer{{Grain: "wheat", Mass: 7, Shares: halves("a", "b")}}, api.Layer{Grain: "wheat", Mass: 7, Shares: halves("a", "b")}},
		{[]api.Layer{{Grain: "rye", Mass: 1, Shares: alone("c")}, {Grain: "rye", Mass: 2, Shares: alone("B")}, {Grain: "rye", Mass: 3, Shares: alone("a")}},
			api.Layer{Grain: "rye", Mass: 6, Shares: []api.Share{{Lot: "B", Part: "1/3"}, {Lot: "a", Part: "1/2"}, {Lot: "c", Part: "1/6"}}}},
		{[]api.Layer{{Grain: "rye", Mass: 999999998, Shares: alone("a")}, {Grain: "rye", Mass: 1, Shares: alone("a")}}, api.Layer{Grain: "rye", Mass: 999999999, Shares: alone("a")}},
		{[]api.Layer{{Grain: "rye", Mass: 5, Shares: evenShares(32, "a")}, {Grain: "rye", Mass: 5, Shares: evenShares(32, "b")}},
			api.Layer{Grain: "rye", Mass: 10, Shares: append(sharesWith(evenShares(32, "a"), "1/64"), sharesWith(evenShares(32, "b"), "1/64")...)}},
		{slices.Repeat([]api.Layer{{Grain: "rye", Mass: 3, Shares: halves("x", "y")}}, 64), api.Layer{Grain: "rye", Mass: 192, Shares: halves("x", "y")}},
	} {
		got, e := measure.Mix(row.l)
		expect(t, "Mix", e, api.OK)
		expect(t, "Mix", got, row.want)
		expect(t, "CheckLayer of a mixture", measure.CheckLayer(got), api.OK)
	}
}

// sharesWith returns shares of the same lots, each with that part.
func sharesWith(l []api.Share, part api.Rat) []api.Share {
	result := slices.Clone(l)
	for i := range result {
		result[i].Part = part
	}
	return result
}

func TestMixErrors(t *testing.T) {
	layer := func(grain string, mass int, shares []api.Share) api.Layer {
		return api.Layer{Grain: grain, Mass: mass, Shares: shares}
	}
	good := layer("rye", 1, alone("a"))
	most := layer("rye", 999999999, alone("a"))
	long := layer("rye", 1, []api.Share{{Lot: "a", Part: api.Rat("1/" + nines(600))}, {Lot: "b", Part: api.Rat(nines(599) + "8/" + nines(600))}})
	for name, row := range map[string]struct {
		l []api.Layer
		e api.Errno
	}{
		"nil": {nil, api.ErrShape}, "none": {[]api.Layer{}, api.ErrShape},
		"65 layers": {slices.Repeat([]api.Layer{good}, 65), api.ErrMany}, "65 bad layers": {make([]api.Layer, 65), api.ErrMany},
		"no name": {[]api.Layer{good, layer("", 0, nil)}, api.ErrName}, "no mass": {[]api.Layer{good, layer("rye", 0, nil), layer("", 0, nil)}, api.ErrRange},
		"no shares": {[]api.Layer{good, layer("oats", 1, nil)}, api.ErrShape}, "bad shares": {[]api.Layer{layer("rye", 1, halves("b", "a"))}, api.ErrOrder},
		"two grains":               {[]api.Layer{good, layer("wheat", 1, alone("a"))}, api.ErrGrain},
		"a grain by its case":      {[]api.Layer{good, good, layer("Rye", 1, alone("a"))}, api.ErrGrain},
		"two grains, great mass":   {[]api.Layer{most, most, layer("wheat", 1, alone("a"))}, api.ErrGrain},
		"two grains, bad layer":    {[]api.Layer{good, layer("wheat", 1, alone("a")), layer("rye", 0, nil)}, api.ErrRange},
		"a great mass":             {[]api.Layer{most, good}, api.ErrLarge},
		"a very great mass":        {slices.Repeat([]api.Layer{most}, 64), api.ErrLarge},
		"a great mass, many lots":  {[]api.Layer{layer("rye", 999999999, evenShares(64, "a")), layer("rye", 1, alone("b"))}, api.ErrLarge},
		"65 lots":                  {[]api.Layer{layer("rye", 5, evenShares(64, "a")), layer("rye", 1, alone("b"))}, api.ErrMany},
		"4096 lots":                {manyLots(), api.ErrMany},
		"long numbers":             {[]api.Layer{long, good, good}, api.ErrLarge},
		"long numbers, many lots":  {[]api.Layer{long, layer("rye", 1, evenShares(64, "c"))}, api.ErrMany},
		"long numbers, two grains": {[]api.Layer{long, good, layer("oats", 1, alone("a"))}, api.ErrGrain},
	} {
		got, e := measure.Mix(row.l)
		expect(t, "Mix: "+name, e, row.e)
		expect(t, "Mix: "+name, got, api.Layer{})
	}
}

// manyLots returns layers without a common lot.
func manyLots() []api.Layer {
	var l []api.Layer
	for i := range 64 {
		l = append(l, api.Layer{Grain: "rye", Mass: 1, Shares: evenShares(64, "x"+strconv.Itoa(i)+"-")})
	}
	return l
}

func TestMixLeavesItsArgumentsAlone(t *testing.T) {
	l := []api.Layer{{Grain: "rye", Mass: 2, Shares: halves("b", "c")}, {Grain: "rye", Mass: 1, Shares: halves("a", "b")}}
	first, _ := measure.Mix(l)
	expect(t, "the layers behind Mix", l, []api.Layer{{Grain: "rye", Mass: 2, Shares: halves("b", "c")}, {Grain: "rye", Mass: 1, Shares: halves("a", "b")}})
	single, _ := measure.Mix(l[:1])
	single.Shares[0].Part, first.Shares[0].Part = "7", "7"
	expect(t, "the layers behind a change of the result", l[0].Shares, halves("b", "c"))
	second, _ := measure.Mix(l)
	expect(t, "Mix once more", second.Shares[0].Part, api.Rat("1/6"))
}

// P1.3: moisture.

func TestMatterAndWet(t *testing.T) {
	for _, row := range []struct {
		mass     int
		from, to api.Rat
		dry, wet api.Rat
	}{
		{1000, "20", "36", "800", "1250"}, {1000, "20", "0", "800", "800"}, {1000, "20", "14", "800", "40000/43"}, {1000, "20", "20", "800", "1000"},
		{0, "20", "36", "0", "0"}, {7, "0", "50", "7", "14"}, {1, "99", "1", "1/100", "1/99"}, {3, "1/3", "199/2", "299/100", "598"},
		{999999999, "0", "0", "999999999", "999999999"}, {931, "13100/931", "20", "800", "1000"},
	} {
		dry, e := measure.Matter(row.mass, row.from)
		expect(t, "Matter", e, api.OK)
		expect(t, "Matter", dry, row.dry)
		wet, e := measure.Wet(row.mass, row.from, row.to)
		expect(t, "Wet", e, api.OK)
		expect(t, "Wet", wet, row.wet)
	}
}

func TestErrorsOfMoistures(t *testing.T) {
	long := api.Rat("1/" + nines(600))
	for _, row := range []struct {
		mass     int
		from, to api.Rat
		matter   api.Errno
		wet      api.Errno
	}{
		{-1, "20", "14", api.ErrRange, api.ErrRange}, {1000000000, "20", "14", api.ErrRange, api.ErrRange}, {-1 << 63, "x", "x", api.ErrRange, api.ErrRange},
		{1, "x", "101", api.ErrForm, api.ErrForm}, {1, "100", "x", api.ErrRange, api.ErrRange}, {1, "-1", "x", api.ErrRange, api.ErrRange}, {1, "101", "0", api.ErrRange, api.ErrRange},
		{1, "-1/1000", "0", api.ErrRange, api.ErrRange}, {1, "0", "100", api.OK, api.ErrRange}, {1, "0", "-1/2", api.OK, api.ErrRange}, {1, "0", "201/2", api.OK, api.ErrRange},
		{1, "0", "4/6", api.OK, api.ErrForm}, {1, "0", api.Rat(nines(601)), api.OK, api.ErrLarge}, {1, api.Rat(nines(601)), "x", api.ErrLarge, api.ErrLarge},
		{1, api.Rat(nines(600)), "0", api.ErrRange, api.ErrRange}, {0, "100", "0", api.ErrRange, api.ErrRange}, {0, "0", "100", api.OK, api.ErrRange},
		{1, long, "0", api.ErrLarge, api.ErrLarge}, {0, long, "0", api.OK, api.OK}, {1, "0", long, api.OK, api.ErrLarge}, {1, long, long, api.ErrLarge, api.OK},
	} {
		dry, e := measure.Matter(row.mass, row.from)
		expect(t, "Matter of "+string(row.from), e, row.matter)
		expect(t, "Matter of "+string(row.from), dry == "", row.matter != api.OK)
		wet, e := measure.Wet(row.mass, row.from, row.to)
		expect(t, "Wet of "+string(row.from+" "+row.to), e, row.wet)
		expect(t, "Wet of "+string(row.from+" "+row.to), wet == "", row.wet != api.OK)
	}
}
