package tests

import (
	"fmt"
	"math"
	"math/big"
	"math/rand/v2"
	"slices"
	"testing"

	"loop.example/g01258/impl"
)

type road = impl.Road
type station = impl.Station

func roa(way amount, wells ...amount) road {
	return road{Way: way, Wells: wells}
}

func sta(fuel, way int) station {
	return station{Fuel: fuel, Way: way}
}

// parts are the amounts num / den for each of the nums.
func parts(den int, nums ...int) []amount {
	var list []amount
	for _, num := range nums {
		a, _ := amountOf(rat(num, den))
		list = append(list, a)
	}
	return list
}

// numbers are all from the first to the last one.
func numbers(first, last int) []int {
	var list []int
	for n := first; n <= last; n++ {
		list = append(list, n)
	}
	return list
}

func isRoadPlaceByHand(a amount) bool {
	return isAmountByHand(a) && a.Den <= 1000 && ratOf(a).Cmp(rat(1000, 1)) <= 0
}

func isRoadByHand(r road) bool {
	if !isRoadPlaceByHand(r.Way) || len(r.Wells) > 16 {
		return false
	}
	before := new(big.Rat)
	for _, well := range r.Wells {
		if !isRoadPlaceByHand(well) || ratOf(well).Cmp(before) <= 0 || ratOf(well).Cmp(ratOf(r.Way)) >= 0 {
			return false
		}
		before = ratOf(well)
	}
	return true
}

func isStationByHand(s station) bool {
	return s.Fuel >= 0 && s.Fuel <= 1000 && s.Way >= 0 && s.Way <= 1000
}

func isRingByHand(ring []station) bool {
	return len(ring) >= 1 && len(ring) <= 20 && !slices.ContainsFunc(ring, func(s station) bool { return !isStationByHand(s) })
}

// roadByHand is what all functions have to tell of a road, as it is looked up in all lists of stops one by one.
type roadByHand struct {
	longest *big.Rat
	enough  [][]int
	fewest  [][]int
	needed  []int
	reaches [17]*big.Rat
}

// lookUp needs a road. Each list of stops is told by the bits of a number.
func lookUp(r road) roadByHand {
	count := len(r.Wells)
	places := []*big.Rat{new(big.Rat)}
	for _, well := range r.Wells {
		places = append(places, ratOf(well))
	}
	places = append(places, ratOf(r.Way))
	var near [18][18]bool
	for i := range places {
		for j := range places[i:] {
			near[i][i+j] = less(places[i+j], places[i]).Cmp(rat(1, 1)) <= 0
		}
	}
	look := roadByHand{longest: longestByHand(places)}
	farthest := [17]int{}
	for bits := range 1 << count {
		stops, here, made := []int(nil), 0, true
		for i := range count {
			if bits>>i&1 == 1 {
				made = made && near[here][i+1]
				stops, here = append(stops, i), i+1
			}
		}
		if !made {
			continue
		}
		for k := len(stops); k <= 16; k++ {
			farthest[k] = max(farthest[k], here)
		}
		if near[here][count+1] {
			look.enough = append(look.enough, stops)
		}
	}
	for k, well := range farthest {
		look.reaches[k] = lesser(ratOf(r.Way), sum(places[well], rat(1, 1)))
	}
	look.fewest, look.needed = fewestAndNeeded(look.enough, count)
	return look
}

func longestByHand(places []*big.Rat) *big.Rat {
	longest := new(big.Rat)
	for i, place := range places[1:] {
		if gap := less(place, places[i]); gap.Cmp(longest) > 0 {
			longest = gap
		}
	}
	return longest
}

func fewestAndNeeded(enough [][]int, count int) (fewest [][]int, needed []int) {
	for _, stops := range enough {
		if len(fewest) > 0 && len(stops) < len(fewest[0]) {
			fewest = nil
		}
		if len(fewest) == 0 || len(stops) == len(fewest[0]) {
			fewest = append(fewest, stops)
		}
	}
	slices.SortFunc(fewest, func(a, b []int) int { return slices.Compare(a, b) })
	for i := range count {
		if !slices.ContainsFunc(enough, func(stops []int) bool { return !slices.Contains(stops, i) }) {
			needed = append(needed, i)
		}
	}
	return fewest, needed
}

// greedyByHand makes each stop at the last well that is near enough.
func greedyByHand(r road) []int {
	var stops []int
	here := new(big.Rat)
	for less(ratOf(r.Way), here).Cmp(rat(1, 1)) > 0 {
		well := -1
		for i := range r.Wells {
			if less(ratOf(r.Wells[i]), here).Cmp(rat(1, 1)) <= 0 {
				well = i
			}
		}
		stops, here = append(stops, well), ratOf(r.Wells[well])
	}
	return stops
}

func backRoadByHand(r road) (road, bool) {
	turned := road{Way: r.Way}
	for i := len(r.Wells) - 1; i >= 0; i-- {
		place, _ := amountOf(less(ratOf(r.Way), ratOf(r.Wells[i])))
		turned.Wells = append(turned.Wells, place)
	}
	if !isRoadByHand(turned) {
		return road{}, false
	}
	return turned, true
}

func expectRoad(t *testing.T, what string, got road, ok bool, want road, wantOk bool) {
	t.Helper()
	expect(t, what+" Way", got.Way, ok, want.Way, wantOk)
	expectList(t, what+" Wells", got.Wells, ok, want.Wells, wantOk)
}

// wellNumbers are numbers at, below and above the limits of this chapter.
func wellNumbers() []int {
	return append(hostileInts(), 4, 5, 6, 8, 9, 12, 13, 14, 15, 16, 17, 18, 19, 99999, 100000, 100001)
}

// checkRoad calls all functions of a road that may be none, with room behind its wells that must not be touched.
func checkRoad(t *testing.T, r road) {
	t.Helper()
	kept := append(slices.Clone(r.Wells), am(-7, 9), am(-7, 9))
	room := slices.Clone(kept)
	given := road{Way: r.Way, Wells: room[:len(r.Wells)]}
	if isRoadByHand(r) {
		expect(t, fmt.Sprint("IsRoad ", r), impl.IsRoad(given), true, true, true)
		checkValidRoad(t, given)
	} else {
		expect(t, fmt.Sprint("IsRoad ", r), impl.IsRoad(given), true, false, true)
		checkNoRoad(t, given)
	}
	expectList(t, fmt.Sprint("the wells behind ", r), room, true, kept, true)
}

func checkValidRoad(t *testing.T, r road) {
	t.Helper()
	look := lookUp(r)
	some := len(look.enough) > 0
	can, ok := impl.CanGo(r)
	expect(t, fmt.Sprint("CanGo ", r), can, ok, some, true)
	gap, ok := impl.LongestGap(r)
	longest, _ := amountOf(look.longest)
	expect(t, fmt.Sprint("LongestGap ", r), gap, ok, longest, true)
	if can != (ratOf(gap).Cmp(rat(1, 1)) <= 0) {
		t.Error("CanGo and LongestGap differ", r, can, gap)
	}
	count, ok := impl.CountFewest(r)
	expect(t, fmt.Sprint("CountFewest ", r), count, ok, len(look.fewest), true)
	count, ok = impl.CountStopSets(r)
	expect(t, fmt.Sprint("CountStopSets ", r), count, ok, len(look.enough), true)
	needed, ok := impl.NeededWells(r)
	expectList(t, fmt.Sprint("NeededWells ", r), needed, ok, look.needed, true)
	checkFewestStops(t, r, look)
	checkReaches(t, r, look)
	turned, turnedOk := backRoadByHand(r)
	got, ok := impl.BackRoad(r)
	expectRoad(t, fmt.Sprint("BackRoad ", r), got, ok, turned, turnedOk)
}

func checkFewestStops(t *testing.T, r road, look roadByHand) {
	t.Helper()
	greedy, ok := impl.GreedyStops(r)
	first, firstOk := impl.FirstStops(r)
	if len(look.enough) == 0 {
		expectList(t, fmt.Sprint("GreedyStops ", r), greedy, ok, nil, false)
		expectList(t, fmt.Sprint("FirstStops ", r), first, firstOk, nil, false)
		return
	}
	expectList(t, fmt.Sprint("GreedyStops ", r), greedy, ok, greedyByHand(r), true)
	expectList(t, fmt.Sprint("FirstStops ", r), first, firstOk, look.fewest[0], true)
	if !slices.ContainsFunc(look.fewest, func(stops []int) bool { return slices.Equal(stops, greedy) }) {
		t.Error("GreedyStops are not the fewest", r, greedy, look.fewest)
	}
}

func checkReaches(t *testing.T, r road, look roadByHand) {
	t.Helper()
	for stops, reach := range look.reaches {
		want, _ := amountOf(reach)
		got, ok := impl.ReachWithStops(r, stops)
		expect(t, fmt.Sprint("ReachWithStops ", r, stops), got, ok, want, true)
	}
	for _, stops := range wellNumbers() {
		if stops < 0 || stops > 16 {
			got, ok := impl.ReachWithStops(r, stops)
			expect(t, fmt.Sprint("ReachWithStops ", r, stops), got, ok, amount{}, false)
		}
	}
}

func checkNoRoad(t *testing.T, r road) {
	t.Helper()
	what := fmt.Sprintf("of no road, %v with %d wells", r.Way, len(r.Wells))
	can, ok := impl.CanGo(r)
	expect(t, "CanGo "+what, can, ok, false, false)
	gap, ok := impl.LongestGap(r)
	expect(t, "LongestGap "+what, gap, ok, amount{}, false)
	for _, call := range []func(road) ([]int, bool){impl.GreedyStops, impl.FirstStops, impl.NeededWells} {
		list, ok := call(r)
		expectList(t, "stops "+what, list, ok, nil, false)
	}
	for _, call := range []func(road) (int, bool){impl.CountFewest, impl.CountStopSets} {
		count, ok := call(r)
		expect(t, "count "+what, count, ok, 0, false)
	}
	for _, stops := range []int{math.MinInt, -1, 0, 1, 16, 17, math.MaxInt} {
		reach, ok := impl.ReachWithStops(r, stops)
		expect(t, "ReachWithStops "+what, reach, ok, amount{}, false)
	}
	turned, ok := impl.BackRoad(r)
	expectRoad(t, "BackRoad "+what, turned, ok, road{}, false)
}

func TestWellExample(t *testing.T) {
	r := roa(am(5, 2), parts(2, 1, 2, 3, 4)...)
	stops, ok := impl.GreedyStops(r)
	expectList(t, "GreedyStops", stops, ok, []int{1, 3}, true)
	stops, ok = impl.FirstStops(r)
	expectList(t, "FirstStops", stops, ok, []int{0, 2}, true)
	count, ok := impl.CountFewest(r)
	expect(t, "CountFewest", count, ok, 3, true)
	ring := []station{sta(1, 2), sta(3, 2), sta(2, 2)}
	starts, ok := impl.StartsOf(ring)
	expectList(t, "StartsOf", starts, ok, []int{1}, true)
	extra, ok := impl.ExtraFor(ring, 0)
	expect(t, "ExtraFor", extra, ok, 1, true)
}

func TestLimitsOfWells(t *testing.T) {
	if impl.MaxWells != 16 || impl.MaxRing != 20 {
		t.Error("limits", impl.MaxWells, impl.MaxRing)
	}
	rows := []struct {
		r    road
		want bool
	}{
		{road{}, false},
		{roa(am(0, 1)), true},
		{road{Way: am(0, 1), Wells: []amount{}}, true},
		{roa(am(0, 1), am(0, 1)), false},
		{roa(am(0, 2)), false},
		{roa(am(1000, 1)), true},
		{roa(am(1001, 1)), false},
		{roa(am(999999, 1000)), true},
		{roa(am(1000001, 1000)), false},
		{roa(am(998999, 999)), true},
		{roa(am(999001, 999)), false},
		{roa(am(1, 1000)), true},
		{roa(am(1, 1001)), false},
		{roa(am(1, 1), am(1, 1000)), true},
		{roa(am(1, 1), am(1, 1001)), false},
		{roa(am(1, 1), am(999, 1000)), true},
		{roa(am(1, 1), am(1000, 1001)), false},
		{roa(am(1, 1), am(0, 1)), false},
		{roa(am(1, 1), am(0, 1), am(1, 2)), false},
		{roa(am(1, 1), am(1, 1)), false},
		{roa(am(1, 1), am(1, 2), am(1, 1)), false},
		{roa(am(1, 1), am(1001, 1000)), false},
		{roa(am(1, 1), am(-1, 2)), false},
		{roa(am(1, 1), am(2, 4)), false},
		{roa(am(1, 1), amount{}), false},
		{roa(am(-1, 1)), false},
		{roa(am(2, 1), am(1, 1), am(1, 1)), false},
		{roa(am(2, 1), am(1, 2), am(1, 1), am(1, 1)), false},
		{roa(am(2, 1), am(1, 1), am(1, 2)), false},
		{roa(am(2, 1), am(1, 2), am(3, 2), am(1, 1)), false},
		{roa(am(2, 1), am(998, 999), am(999, 1000)), true},
		{roa(am(2, 1), am(999, 1000), am(998, 999)), false},
		{roa(am(1000, 1), parts(1, numbers(1, 16)...)...), true},
		{roa(am(1000, 1), append(parts(1, numbers(1, 16)...), am(17, 1))...), false},
		{roa(am(1000, 1), am(999999, 1000)), true},
		{roa(am(16, 1), parts(1, numbers(1, 16)...)...), false},
		{roa(am(17, 1), slices.Repeat([]amount{am(1, 1)}, 16)...), false},
		{roa(am(17, 1), slices.Repeat([]amount{am(1, 2)}, 100000)...), false},
	}
	for i, row := range rows {
		if isRoadByHand(row.r) != row.want || impl.IsRoad(row.r) != row.want {
			t.Error("IsRoad of row", i, impl.IsRoad(row.r), "want", row.want)
		}
		checkRoad(t, row.r)
	}
}

// TestRoadsAtTheEdges tells results without the lists that the other tests are made with.
func TestRoadsAtTheEdges(t *testing.T) {
	all := numbers(0, 15)
	rows := []struct {
		r                     road
		gap                   amount
		greedy, first, needed []int
		fewest, sets          int
	}{
		{roa(am(0, 1)), am(0, 1), nil, nil, nil, 1, 1},
		{roa(am(1, 1)), am(1, 1), nil, nil, nil, 1, 1},
		{roa(am(999, 1000)), am(999, 1000), nil, nil, nil, 1, 1},
		{roa(am(1001, 1000)), am(1001, 1000), nil, nil, nil, 0, 0},
		{roa(am(1000, 1)), am(1000, 1), nil, nil, nil, 0, 0},
		{roa(am(1, 1), am(1, 3)), am(2, 3), nil, nil, nil, 1, 2},
		{roa(am(1001, 1000), am(1, 1000)), am(1, 1), []int{0}, []int{0}, []int{0}, 1, 1},
		{roa(am(1001, 1000), am(1, 1)), am(1, 1), []int{0}, []int{0}, []int{0}, 1, 1},
		{roa(am(2, 1), am(1, 1)), am(1, 1), []int{0}, []int{0}, []int{0}, 1, 1},
		{roa(am(2, 1), am(999, 1000)), am(1001, 1000), nil, nil, []int{0}, 0, 0},
		{roa(am(2, 1), am(1001, 1000)), am(1001, 1000), nil, nil, []int{0}, 0, 0},
		{roa(am(3, 1), am(1, 1), am(2, 1)), am(1, 1), []int{0, 1}, []int{0, 1}, []int{0, 1}, 1, 1},
		// Both gaps differ from a tank by no more than two Dens allow.
		{roa(am(2, 1), am(1, 1000), am(1000, 999)), am(999001, 999000), nil, nil, []int{0, 1}, 0, 0},
		{roa(am(2, 1), am(1, 999), am(1001, 1000)), am(998999, 999000), []int{0, 1}, []int{0, 1}, []int{0, 1}, 1, 1},
		{roa(am(5, 2), parts(2, 1, 2, 3, 4)...), am(1, 2), []int{1, 3}, []int{0, 2}, nil, 3, 8},
		{roa(am(5, 2), parts(2, 1, 3, 4)...), am(1, 1), []int{0, 1}, []int{0, 1}, []int{0, 1}, 1, 2},
		{roa(am(3, 2), parts(2, 1, 2)...), am(1, 2), []int{1}, []int{0}, nil, 2, 3},
		{roa(am(3, 1), parts(2, 1, 2, 4)...), am(1, 1), []int{1, 2}, []int{1, 2}, []int{1, 2}, 1, 2},
		{roa(am(17, 2), parts(2, numbers(1, 16)...)...), am(1, 2), []int{1, 3, 5, 7, 9, 11, 13, 15}, []int{0, 2, 4, 6, 8, 10, 12, 14}, nil, 9, 2584},
		{roa(am(17, 1), parts(1, numbers(1, 16)...)...), am(1, 1), all, all, all, 1, 1},
		{roa(am(1000, 1), parts(1, numbers(1, 16)...)...), am(984, 1), nil, nil, all, 0, 0},
		{roa(am(1, 1), parts(17, numbers(1, 16)...)...), am(1, 17), nil, nil, nil, 1, 65536},
		{roa(am(2, 1), parts(10, numbers(1, 16)...)...), am(2, 5), []int{9}, []int{9}, nil, 1, 64832},
	}
	for _, row := range rows {
		some := row.sets > 0
		can, ok := impl.CanGo(row.r)
		expect(t, fmt.Sprint("CanGo ", row.r), can, ok, some, true)
		gap, ok := impl.LongestGap(row.r)
		expect(t, fmt.Sprint("LongestGap ", row.r), gap, ok, row.gap, true)
		stops, ok := impl.GreedyStops(row.r)
		expectList(t, fmt.Sprint("GreedyStops ", row.r), stops, ok, row.greedy, some)
		stops, ok = impl.FirstStops(row.r)
		expectList(t, fmt.Sprint("FirstStops ", row.r), stops, ok, row.first, some)
		count, ok := impl.CountFewest(row.r)
		expect(t, fmt.Sprint("CountFewest ", row.r), count, ok, row.fewest, true)
		count, ok = impl.CountStopSets(row.r)
		expect(t, fmt.Sprint("CountStopSets ", row.r), count, ok, row.sets, true)
		stops, ok = impl.NeededWells(row.r)
		expectList(t, fmt.Sprint("NeededWells ", row.r), stops, ok, row.needed, true)
		checkRoad(t, row.r)
	}
}

func TestReachWithStopsAtTheEdges(t *testing.T) {
	rows := []struct {
		r     road
		stops int
		want  amount
		ok    bool
	}{
		{roa(am(0, 1)), 0, am(0, 1), true},
		{roa(am(0, 1)), 16, am(0, 1), true},
		{roa(am(1, 2)), 0, am(1, 2), true},
		{roa(am(1, 1)), 0, am(1, 1), true},
		{roa(am(1001, 1000)), 0, am(1, 1), true},
		{roa(am(1000, 1)), 16, am(1, 1), true},
		{roa(am(1000, 1)), 17, amount{}, false},
		{roa(am(1000, 1)), -1, amount{}, false},
		{roa(am(3, 1), parts(2, 1, 3)...), 0, am(1, 1), true},
		{roa(am(3, 1), parts(2, 1, 3)...), 1, am(3, 2), true},
		{roa(am(3, 1), parts(2, 1, 3)...), 2, am(5, 2), true},
		{roa(am(3, 1), parts(2, 1, 3)...), 3, am(5, 2), true},
		{roa(am(3, 1), parts(2, 1, 3)...), 16, am(5, 2), true},
		{roa(am(5, 2), parts(2, 1, 3)...), 2, am(5, 2), true},
		{roa(am(9, 4), parts(2, 1, 3)...), 2, am(9, 4), true},
		{roa(am(9, 4), parts(2, 1, 3)...), 3, am(9, 4), true},
		{roa(am(3, 1), parts(2, 1, 4)...), 1, am(3, 2), true},
		{roa(am(3, 1), parts(2, 1, 4)...), 2, am(3, 2), true},
		{roa(am(3, 1), parts(2, 1, 4)...), 16, am(3, 2), true},
		{roa(am(3, 1), am(3, 2)), 1, am(1, 1), true},
		{roa(am(1000, 1), parts(1, numbers(1, 16)...)...), 0, am(1, 1), true},
		{roa(am(1000, 1), parts(1, numbers(1, 16)...)...), 15, am(16, 1), true},
		{roa(am(1000, 1), parts(1, numbers(1, 16)...)...), 16, am(17, 1), true},
		{roa(am(1000, 1), parts(1, numbers(1, 16)...)...), 17, amount{}, false},
		{roa(am(1000, 1), am(1, 1000), am(1, 1)), 1, am(2, 1), true},
		{roa(am(1000, 1), am(1, 1000), am(1001, 1000)), 1, am(1001, 1000), true},
		{roa(am(1000, 1), am(1, 1000), am(1001, 1000)), 2, am(2001, 1000), true},
	}
	for _, row := range rows {
		got, ok := impl.ReachWithStops(row.r, row.stops)
		expect(t, fmt.Sprint("ReachWithStops ", row.r, row.stops), got, ok, row.want, row.ok)
	}
}

func TestBackRoadAtTheEdges(t *testing.T) {
	rows := []struct {
		r, want road
		ok      bool
	}{
		{roa(am(0, 1)), roa(am(0, 1)), true},
		{roa(am(1000, 1)), roa(am(1000, 1)), true},
		{roa(am(1, 1000)), roa(am(1, 1000)), true},
		{roa(am(5, 2), parts(2, 1, 2)...), roa(am(5, 2), am(3, 2), am(2, 1)), true},
		{roa(am(1, 1), am(1, 1000)), roa(am(1, 1), am(999, 1000)), true},
		{roa(am(3, 1000), am(1, 1000)), roa(am(3, 1000), am(1, 500)), true},
		{roa(am(1, 2), am(1, 500)), roa(am(1, 2), am(249, 500)), true},
		{roa(am(1, 2), am(1, 499)), roa(am(1, 2), am(497, 998)), true},
		{roa(am(1, 2), am(1, 501)), road{}, false},
		{roa(am(1, 2), am(1, 999)), road{}, false},
		{roa(am(1, 2), am(1, 501), am(1, 4)), road{}, false},
		{roa(am(1, 2), am(1, 501), am(1, 500)), road{}, false},
		{roa(am(7, 13), am(1, 77)), road{}, false},
		{roa(am(7, 13), am(1, 76)), roa(am(7, 13), am(519, 988)), true},
		{roa(am(999999, 1000), am(1, 999)), road{}, false},
		{roa(am(1000, 1), am(999999, 1000)), roa(am(1000, 1), am(1, 1000)), true},
	}
	for _, row := range rows {
		got, ok := impl.BackRoad(row.r)
		expectRoad(t, fmt.Sprint("BackRoad ", row.r), got, ok, row.want, row.ok)
		checkRoad(t, row.r)
	}
}

// TestRoadsOfFewPlaces goes through all roads of so many wells of a few parts of a tank.
func TestRoadsOfFewPlaces(t *testing.T) {
	for den := 1; den <= 3; den++ {
		for way := 0; way <= 9; way++ {
			end := parts(den, way)[0]
			for bits := range 1 << max(0, way-1) {
				var nums []int
				for i := range max(0, way-1) {
					if bits>>i&1 == 1 {
						nums = append(nums, i+1)
					}
				}
				checkRoad(t, roa(end, parts(den, nums...)...))
			}
		}
	}
}

// roadByChance has wells that are nearer to each other than a few tanks, and sometimes exactly a tank apart.
func roadByChance(draw *rand.Rand, wells int) road {
	den := []int{2, 3, 4, 6, 12, 1000}[draw.IntN(6)]
	wide := 1 + draw.IntN(den+den/5+1)
	at := 0
	var nums []int
	for range wells + 1 {
		at += 1 + draw.IntN(wide)
		if draw.IntN(9) == 0 {
			at += draw.IntN(den)
		}
		nums = append(nums, at)
	}
	places := parts(den, nums...)
	return roa(places[wells], places[:wells]...)
}

func TestRoadsByChance(t *testing.T) {
	draw := rand.New(rand.NewPCG(6, 1))
	can, turned := 0, 0
	for range 3000 {
		r := roadByChance(draw, draw.IntN(11))
		checkRoad(t, r)
		if some, _ := impl.CanGo(r); some {
			can++
		}
		turned += checkTurnedRoad(t, r)
	}
	if can < 500 || can > 2500 || turned < 2500 {
		t.Error("roads that can be gone, and that can be turned:", can, turned)
	}
	for range 20 {
		checkRoad(t, roadByChance(draw, 16))
	}
}

// TestRoadsOfManyDens has places whose Dens have nothing to do with each other.
func TestRoadsOfManyDens(t *testing.T) {
	draw := rand.New(rand.NewPCG(6, 2))
	for range 1500 {
		var places []amount
		for range 1 + draw.IntN(10) {
			places = append(places, amountNear(draw, 1+draw.IntN(1010), 1+draw.IntN(5)))
		}
		slices.SortFunc(places, func(a, b amount) int { return ratOf(a).Cmp(ratOf(b)) })
		last := len(places) - 1
		checkRoad(t, roa(places[last], places[:last]...))
	}
}

// checkTurnedRoad goes both ways: turned twice, a road is the same, and it has as many stops from either end.
func checkTurnedRoad(t *testing.T, r road) int {
	t.Helper()
	turned, ok := impl.BackRoad(r)
	if !ok {
		return 0
	}
	again, ok := impl.BackRoad(turned)
	expectRoad(t, fmt.Sprint("BackRoad twice ", r), again, ok, r, true)
	for _, call := range []func(road) (int, bool){impl.CountFewest, impl.CountStopSets} {
		forth, forthOk := call(r)
		home, homeOk := call(turned)
		expect(t, fmt.Sprint("counted from the other end ", r), home, homeOk, forth, forthOk)
	}
	forth, forthOk := impl.GreedyStops(r)
	home, homeOk := impl.GreedyStops(turned)
	expect(t, fmt.Sprint("stops from the other end ", r), len(home), homeOk, len(forth), forthOk)
	return 1
}

func TestHostileRoads(t *testing.T) {
	many := slices.Repeat([]amount{am(1, 2)}, 1000)
	for i, a := range append(hostileAmounts(), someAmounts()...) {
		checkRoad(t, roa(a))
		checkRoad(t, roa(a, am(1, 2), am(3, 4)))
		checkRoad(t, roa(am(7, 4), am(1, 2), a))
		checkRoad(t, roa(am(7, 4), a, am(1, 1)))
		checkRoad(t, roa(a, a))
		checkRoad(t, roa(am(1000, 1), am(1, 1000), a, am(999999, 1000)))
		if i%50 == 0 {
			checkRoad(t, roa(a, many...))
			checkRoad(t, roa(am(2, 1), append(slices.Clone(many), a)...))
		}
	}
}

// takingsByHand looks at all sets of wells at which fuel may be taken.
func takingsByHand(fuel, way int, wells []station) (int, bool) {
	if fuel < 0 || fuel > 100000 || way < 0 || way > 100000 || len(wells) > 20 || slices.ContainsFunc(wells, func(s station) bool { return !isStationByHand(s) }) {
		return 0, false
	}
	fewest := -1
	for bits := range 1 << len(wells) {
		tank, left, takings := fuel, way, 0
		for i, well := range wells {
			part := min(well.Way, left)
			tank, left = tank-part, left-part
			if tank < 0 || left == 0 {
				break
			}
			if bits>>i&1 == 1 {
				tank += well.Fuel
				takings++
			}
		}
		if tank >= left && (fewest < 0 || takings < fewest) {
			fewest = takings
		}
	}
	return max(fewest, 0), fewest >= 0
}

func checkTakings(t *testing.T, fuel, way int, wells []station) {
	t.Helper()
	want, wantOk := takingsByHand(fuel, way, wells)
	kept := append(slices.Clone(wells), sta(-7, -9), sta(-7, -9))
	room := slices.Clone(kept)
	got, ok := impl.FewestTakings(fuel, way, room[:len(wells)])
	expect(t, fmt.Sprint("FewestTakings ", fuel, way, wells), got, ok, want, wantOk)
	expectList(t, fmt.Sprint("the wells behind FewestTakings ", wells), room, true, kept, true)
}

func TestFewestTakingsAtTheEdges(t *testing.T) {
	twenty := slices.Repeat([]station{sta(1000, 1000)}, 20)
	rows := []struct {
		fuel, way int
		wells     []station
		want      int
		ok        bool
	}{
		{0, 0, nil, 0, true},
		{0, 0, []station{}, 0, true},
		{0, 1, nil, 0, false},
		{1, 1, nil, 0, true},
		{100000, 0, nil, 0, true},
		{100000, 100000, nil, 0, true},
		{99999, 100000, nil, 0, false},
		{100001, 0, nil, 0, false},
		{100001, 100000, nil, 0, false},
		{100000, 100001, nil, 0, false},
		{-1, 0, nil, 0, false},
		{0, -1, nil, 0, false},
		{0, 5, []station{sta(5, 0)}, 1, true},
		{0, 5, []station{sta(4, 0)}, 0, false},
		{0, 5, []station{sta(2, 0), sta(3, 0)}, 2, true},
		{0, 5, []station{sta(2, 0), sta(3, 0), sta(4, 0), sta(1, 0)}, 2, true},
		{0, 5, []station{sta(0, 0), sta(5, 0)}, 1, true},
		{0, 5, []station{sta(5, 1)}, 0, false},
		{1, 3, []station{sta(2, 1)}, 1, true},
		{1, 3, []station{sta(1, 1)}, 0, false},
		{0, 3, []station{sta(3, 1)}, 0, false},
		{3, 3, []station{sta(9, 1), sta(9, 1), sta(9, 1)}, 0, true},
		{2, 3, []station{sta(9, 1), sta(9, 1), sta(9, 1)}, 1, true},
		{10, 100, []station{sta(60, 10), sta(30, 10), sta(30, 10), sta(40, 30)}, 2, true},
		{5, 5, []station{sta(3, 5)}, 0, true},
		{5, 5, []station{sta(3, 6)}, 0, true},
		{4, 5, []station{sta(9, 5)}, 0, false},
		{4, 5, []station{sta(9, 6)}, 0, false},
		{4, 5, []station{sta(9, 4)}, 1, true},
		{3, 5, []station{sta(1, 3), sta(9, 3)}, 0, false},
		{3, 5, []station{sta(1, 3), sta(9, 1)}, 2, true},
		{3, 5, []station{sta(1, 1), sta(1, 1), sta(2, 1), sta(9, 9), sta(9, 9)}, 1, true},
		{1000, 21000, twenty, 20, true},
		{999, 21000, twenty, 0, false},
		{1000, 21001, twenty, 0, false},
		{1000, 20001, twenty, 20, true},
		{1000, 20000, twenty, 19, true},
		{80000, 100000, twenty, 20, true},
		{79999, 100000, twenty, 0, false},
		{99000, 100000, twenty, 1, true},
		{1000, 1000, append(twenty[:20:20], sta(0, 0)), 0, false},
		{5, 5, []station{sta(1001, 1)}, 0, false},
		{5, 5, []station{sta(1, 1001)}, 0, false},
		{5, 5, []station{sta(-1, 1)}, 0, false},
		{5, 5, []station{sta(1, 9), sta(1, -1)}, 0, false},
	}
	for _, row := range rows {
		got, ok := impl.FewestTakings(row.fuel, row.way, row.wells)
		expect(t, fmt.Sprint("FewestTakings ", row.fuel, row.way, row.wells), got, ok, row.want, row.ok)
		if len(row.wells) < 20 {
			checkTakings(t, row.fuel, row.way, row.wells)
		}
	}
}

func TestFewestTakingsByChance(t *testing.T) {
	draw := rand.New(rand.NewPCG(6, 3))
	taken := [9]int{}
	for range 20000 {
		fuel, way := draw.IntN(20), draw.IntN(60)
		var wells []station
		for range draw.IntN(9) {
			wells = append(wells, sta(draw.IntN(16), draw.IntN(14)))
		}
		checkTakings(t, fuel, way, wells)
		if count, ok := impl.FewestTakings(fuel, way, wells); ok {
			taken[count]++
		}
	}
	if slices.Min(taken[:5]) < 100 {
		t.Error("too few takings", taken)
	}
	for range 4 {
		var wells []station
		for range 16 {
			wells = append(wells, sta(draw.IntN(500), draw.IntN(400)))
		}
		checkTakings(t, 1000, 4000, wells)
	}
}

func TestFewestTakingsOfHostileNumbers(t *testing.T) {
	ints := wellNumbers()
	wells := []station{sta(1000, 0), sta(3, 2), sta(0, 0)}
	for i, a := range ints {
		for j, b := range ints {
			checkTakings(t, a, b, nil)
			checkTakings(t, a, b, wells)
			checkTakings(t, 1, 5, []station{sta(a, b)})
			checkTakings(t, 0, 0, []station{sta(1, 9), sta(a, b), sta(1, 1)})
			checkTakings(t, a, 5, []station{sta(b, 1), sta(ints[(i+j)%len(ints)], 1)})
		}
	}
	for _, count := range []int{20, 21, 22, 1000, 100000} {
		got, ok := impl.FewestTakings(4, 9, slices.Repeat([]station{sta(1, 0)}, count))
		if count > 20 {
			expect(t, fmt.Sprint("FewestTakings with wells: ", count), got, ok, 0, false)
		} else {
			expect(t, fmt.Sprint("FewestTakings with wells: ", count), got, ok, 5, true)
		}
	}
}

// aroundByHand drives around with so much fuel besides, and tells the most in the tank.
func aroundByHand(ring []station, begin, extra int) (int, bool) {
	tank, most := extra, 0
	for i := range ring {
		s := ring[(begin+i)%len(ring)]
		most = max(most, tank+s.Fuel)
		tank += s.Fuel - s.Way
		if tank < 0 {
			return 0, false
		}
	}
	return most, true
}

// checkRing calls all functions of a ring that may be none, with room behind it that must not be touched.
func checkRing(t *testing.T, ring []station) {
	t.Helper()
	kept := append(slices.Clone(ring), sta(-7, -9), sta(-7, -9))
	room := slices.Clone(kept)
	given := room[:len(ring)]
	if isRingByHand(ring) {
		checkValidRing(t, given)
	} else {
		checkNoRing(t, given)
	}
	expectList(t, fmt.Sprintf("the ring of %d", len(ring)), room, true, kept, true)
}

func checkValidRing(t *testing.T, ring []station) {
	t.Helper()
	expect(t, fmt.Sprint("IsRing ", ring), impl.IsRing(ring), true, true, true)
	var starts []int
	fuel, way := 0, 0
	for begin, s := range ring {
		fuel, way = fuel+s.Fuel, way+s.Way
		if _, ok := aroundByHand(ring, begin, 0); ok {
			starts = append(starts, begin)
		}
		checkStation(t, ring, begin)
	}
	got, ok := impl.StartsOf(ring)
	expectList(t, fmt.Sprint("StartsOf ", ring), got, ok, starts, true)
	if len(got) > 0 != (fuel >= way) {
		t.Error("StartsOf", ring, got, "with fuel and way", fuel, way)
	}
	first, ok := impl.FirstStart(ring)
	if len(starts) > 0 {
		expect(t, fmt.Sprint("FirstStart ", ring), first, ok, starts[0], true)
	} else {
		expect(t, fmt.Sprint("FirstStart ", ring), first, ok, 0, false)
	}
	turned, ok := impl.BackRing(ring)
	expectList(t, fmt.Sprint("BackRing ", ring), turned, ok, backRingByHand(ring), true)
	again, ok := impl.BackRing(turned)
	expectList(t, fmt.Sprint("BackRing twice ", ring), again, ok, ring, true)
	for _, k := range wellNumbers() {
		if k < 0 || k >= len(ring) {
			checkNoStation(t, ring, k)
		}
	}
}

func checkStation(t *testing.T, ring []station, k int) {
	t.Helper()
	wantMost, around := aroundByHand(ring, k, 0)
	most, ok := impl.MostInTank(ring, k)
	expect(t, fmt.Sprint("MostInTank ", ring, k), most, ok, wantMost, around)
	extra, ok := impl.ExtraFor(ring, k)
	_, enough := aroundByHand(ring, k, extra)
	_, still := aroundByHand(ring, k, extra-1)
	if !ok || extra < 0 || !enough || extra > 0 && still {
		t.Error("ExtraFor", ring, k, extra, ok, enough, still)
	}
	var want []station
	for i := range ring {
		want = append(want, ring[(k+i)%len(ring)])
	}
	turned, ok := impl.TurnRing(ring, k)
	expectList(t, fmt.Sprint("TurnRing ", ring, k), turned, ok, want, true)
}

func checkNoStation(t *testing.T, ring []station, k int) {
	t.Helper()
	what := fmt.Sprintf("of a ring of %d from %d", len(ring), k)
	most, ok := impl.MostInTank(ring, k)
	expect(t, "MostInTank "+what, most, ok, 0, false)
	extra, ok := impl.ExtraFor(ring, k)
	expect(t, "ExtraFor "+what, extra, ok, 0, false)
	turned, ok := impl.TurnRing(ring, k)
	expectList(t, "TurnRing "+what, turned, ok, nil, false)
}

// backRingByHand goes back over each way to the station it comes from.
func backRingByHand(ring []station) []station {
	count := len(ring)
	want := make([]station, count)
	for i := range ring {
		want[(count-i)%count].Fuel = ring[i].Fuel
		want[(count-i-1+count)%count].Way = ring[i].Way
	}
	return want
}

func checkNoRing(t *testing.T, ring []station) {
	t.Helper()
	what := fmt.Sprintf("of no ring of %d", len(ring))
	expect(t, "IsRing "+what, impl.IsRing(ring), true, false, true)
	starts, ok := impl.StartsOf(ring)
	expectList(t, "StartsOf "+what, starts, ok, nil, false)
	first, ok := impl.FirstStart(ring)
	expect(t, "FirstStart "+what, first, ok, 0, false)
	turned, ok := impl.BackRing(ring)
	expectList(t, "BackRing "+what, turned, ok, nil, false)
	for _, k := range []int{math.MinInt, -1, 0, 1, len(ring) - 1, len(ring), math.MaxInt} {
		checkNoStation(t, ring, k)
	}
}

// TestRingsAtTheEdges tells results without the drives that the other tests are made with.
func TestRingsAtTheEdges(t *testing.T) {
	rows := []struct {
		ring        []station
		starts      []int
		most, extra []int
	}{
		{[]station{sta(0, 0)}, []int{0}, []int{0}, []int{0}},
		{[]station{sta(1000, 1000)}, []int{0}, []int{1000}, []int{0}},
		{[]station{sta(1000, 0)}, []int{0}, []int{1000}, []int{0}},
		{[]station{sta(999, 1000)}, nil, []int{-1}, []int{1}},
		{[]station{sta(0, 1000)}, nil, []int{-1}, []int{1000}},
		{[]station{sta(1, 2), sta(3, 2)}, []int{1}, []int{-1, 3}, []int{1, 0}},
		{[]station{sta(3, 2), sta(1, 2)}, []int{0}, []int{3, -1}, []int{0, 1}},
		{[]station{sta(1, 2), sta(3, 2), sta(2, 2)}, []int{1}, []int{-1, 3, -1}, []int{1, 0, 1}},
		{[]station{sta(1, 2), sta(2, 2), sta(2, 2)}, nil, []int{-1, -1, -1}, []int{1, 1, 1}},
		{[]station{sta(2, 2), sta(2, 2), sta(2, 2)}, []int{0, 1, 2}, []int{2, 2, 2}, []int{0, 0, 0}},
		{[]station{sta(0, 5), sta(9, 1), sta(0, 3)}, []int{1}, []int{-1, 9, -1}, []int{5, 0, 8}},
		{[]station{sta(0, 0), sta(0, 5), sta(9, 1), sta(0, 0), sta(0, 3)}, []int{2}, []int{-1, -1, 9, -1, -1}, []int{5, 5, 0, 8, 8}},
		{[]station{sta(4, 1), sta(0, 2), sta(4, 1), sta(0, 2)}, []int{0, 2}, []int{5, -1, 5, -1}, []int{0, 2, 0, 2}},
		{[]station{sta(5, 3), sta(7, 1)}, []int{0, 1}, []int{9, 11}, []int{0, 0}},
		{slices.Repeat([]station{sta(1000, 1000)}, 20), numbers(0, 19), slices.Repeat([]int{1000}, 20), make([]int, 20)},
		{slices.Repeat([]station{sta(1000, 0)}, 20), numbers(0, 19), slices.Repeat([]int{20000}, 20), make([]int, 20)},
		{slices.Repeat([]station{sta(0, 1000)}, 20), nil, slices.Repeat([]int{-1}, 20), slices.Repeat([]int{20000}, 20)},
	}
	for _, row := range rows {
		starts, ok := impl.StartsOf(row.ring)
		expectList(t, fmt.Sprint("StartsOf ", row.ring), starts, ok, row.starts, true)
		for k := range row.ring {
			most, ok := impl.MostInTank(row.ring, k)
			expect(t, fmt.Sprint("MostInTank ", row.ring, k), most, ok, max(row.most[k], 0), row.most[k] >= 0)
			extra, ok := impl.ExtraFor(row.ring, k)
			expect(t, fmt.Sprint("ExtraFor ", row.ring, k), extra, ok, row.extra[k], true)
		}
		checkRing(t, row.ring)
	}
}

func TestTurnedRingsAtTheEdges(t *testing.T) {
	three := []station{sta(1, 4), sta(2, 5), sta(3, 6)}
	rows := []struct {
		ring []station
		k    int
		want []station
		ok   bool
	}{
		{three, 0, three, true},
		{three, 1, []station{sta(2, 5), sta(3, 6), sta(1, 4)}, true},
		{three, 2, []station{sta(3, 6), sta(1, 4), sta(2, 5)}, true},
		{three, 3, nil, false},
		{three, -1, nil, false},
		{three[:1], 0, three[:1], true},
		{three[:1], 1, nil, false},
		{nil, 0, nil, false},
	}
	for _, row := range rows {
		got, ok := impl.TurnRing(row.ring, row.k)
		expectList(t, fmt.Sprint("TurnRing ", row.ring, row.k), got, ok, row.want, row.ok)
	}
	backs := []struct {
		ring, want []station
	}{
		{three[:1], []station{sta(1, 4)}},
		{three[:2], []station{sta(1, 5), sta(2, 4)}},
		{three, []station{sta(1, 6), sta(3, 5), sta(2, 4)}},
		{append(three[:3:3], sta(0, 7)), []station{sta(1, 7), sta(0, 6), sta(3, 5), sta(2, 4)}},
	}
	for _, row := range backs {
		got, ok := impl.BackRing(row.ring)
		expectList(t, fmt.Sprint("BackRing ", row.ring), got, ok, row.want, true)
	}
}

// TestEverySmallRing goes through all rings of one to three stations with small numbers.
func TestEverySmallRing(t *testing.T) {
	var stations []station
	for fuel := range 4 {
		for way := range 4 {
			stations = append(stations, sta(fuel, way))
		}
	}
	for _, a := range stations {
		checkRing(t, []station{a})
		for _, b := range stations {
			checkRing(t, []station{a, b})
			for _, c := range stations {
				checkRing(t, []station{a, b, c})
			}
		}
	}
}

func TestRingsByChance(t *testing.T) {
	draw := rand.New(rand.NewPCG(6, 4))
	for range 2000 {
		most := []int{3, 20, 1001}[draw.IntN(3)]
		var ring []station
		for range 1 + draw.IntN(20) {
			ring = append(ring, sta(draw.IntN(most), draw.IntN(most)))
		}
		checkRing(t, ring)
		checkRing(t, evened(ring, 0))
		checkRing(t, evened(ring, 1))
	}
}

// evened takes fuel or ways away until there is just as much fuel as way, or so much less.
func evened(ring []station, lacks int) []station {
	list := slices.Clone(ring)
	more := -lacks
	for _, s := range list {
		more += s.Way - s.Fuel
	}
	for i := range list {
		way, fuel := min(max(more, 0), list[i].Way), min(max(-more, 0), list[i].Fuel)
		list[i].Way -= way
		list[i].Fuel -= fuel
		more += fuel - way
	}
	return list
}

func TestHostileRings(t *testing.T) {
	checkRing(t, nil)
	checkRing(t, []station{})
	for _, count := range []int{1, 19, 20, 21, 22, 1000, 100000} {
		checkRing(t, slices.Repeat([]station{sta(2, 1)}, count))
	}
	ints := wellNumbers()
	for _, a := range ints {
		for _, b := range ints {
			checkRing(t, []station{sta(a, b)})
			checkRing(t, []station{sta(1, 1), sta(a, b)})
			checkRing(t, []station{sta(a, 1), sta(2, 2), sta(1, b)})
		}
	}
}

// scrambled changes a list, and what is behind it.
func scrambled[T any](list []T) {
	var zero T
	for i := range list {
		list[i] = zero
	}
	for i := range list[:cap(list)] {
		list[:cap(list)][i] = zero
	}
}

// TestWellListsAreKeptApart changes the results of calls, and looks at the arguments and at the results of other calls.
func TestWellListsAreKeptApart(t *testing.T) {
	r := roa(am(5, 2), parts(2, 1, 2, 3, 4)...)
	kept := slices.Clone(r.Wells)
	for _, call := range []func(road) ([]int, bool){impl.GreedyStops, impl.FirstStops} {
		first, _ := call(r)
		other, _ := call(r)
		want := slices.Clone(first)
		scrambled(first)
		again, ok := call(r)
		expectList(t, "stops called before", other, ok, want, true)
		expectList(t, "stops called behind", again, ok, want, true)
	}
	narrow := roa(am(3, 1), am(1, 1), am(2, 1))
	needed, _ := impl.NeededWells(narrow)
	other, _ := impl.NeededWells(narrow)
	scrambled(needed)
	expectList(t, "NeededWells", other, true, []int{0, 1}, true)
	expectList(t, "the wells", narrow.Wells, true, parts(1, 1, 2), true)
	turned, _ := impl.BackRoad(r)
	again, _ := impl.BackRoad(r)
	scrambled(turned.Wells)
	expectList(t, "BackRoad", again.Wells, true, parts(2, 1, 2, 3, 4), true)
	expectList(t, "the wells", r.Wells, true, kept, true)
}

func TestRingListsAreKeptApart(t *testing.T) {
	ring := []station{sta(2, 2), sta(3, 1), sta(1, 2)}
	kept := slices.Clone(ring)
	starts, _ := impl.StartsOf(ring)
	other, _ := impl.StartsOf(ring)
	scrambled(starts)
	expectList(t, "StartsOf", other, true, []int{0, 1}, true)
	turnedBack, _ := impl.BackRing(ring)
	again, _ := impl.BackRing(ring)
	scrambled(turnedBack)
	expectList(t, "BackRing", again, true, []station{sta(2, 2), sta(1, 1), sta(3, 2)}, true)
	for k := range ring {
		turned, _ := impl.TurnRing(ring, k)
		again, _ := impl.TurnRing(ring, k)
		scrambled(turned)
		expectList(t, fmt.Sprint("TurnRing ", k), again, true, append(slices.Clone(kept[k:]), kept[:k]...), true)
	}
	expectList(t, "the ring", ring, true, kept, true)
}
