package tests

import (
	"fmt"
	"math/rand/v2"
	"runtime"
	"slices"
	"sort"
	"sync"
	"testing"
	"time"

	"loop.example/g01258/impl"
)

const mostCans = 1000000000

// roomByHand tells how many cans so many trips can leave one mile on.
func roomByHand(load, trips int) int {
	return (trips-1)*(load-2) + load - 1
}

func isLoadByHand(load int) bool {
	return load >= 2 && load <= 20
}

func areCansByHand(cans int) bool {
	return cans >= 0 && cans <= mostCans
}

// tripsByHand looks for the least number of trips with room enough.
func tripsByHand(load, cans int) (int, bool) {
	if !isLoadByHand(load) || !areCansByHand(cans) {
		return 0, false
	}
	trips := 1 + sort.Search(mostCans, func(more int) bool { return roomByHand(load, 1+more) >= cans })
	if trips > mostCans {
		return 0, false
	}
	return trips, true
}

func needByHand(load, cans int) (int, bool) {
	trips, ok := tripsByHand(load, cans)
	if !ok || cans+2*trips-1 > mostCans {
		return 0, false
	}
	return cans + 2*trips - 1, true
}

// loadsByHand fills each trip up but the last one.
func loadsByHand(load, cans int) ([]int, bool) {
	trips, ok := tripsByHand(load, cans)
	if !ok || trips > 1000 {
		return nil, false
	}
	var loads []int
	left := cans
	for range trips - 1 {
		loads = append(loads, load-2)
		left -= load - 2
	}
	return append(loads, left), true
}

// chainByHand tells the needs of 0, 1, .. up to 100 miles, as far as a number of cans is enough; besides are the cans that each mile needs for the way back.
func chainByHand(load, besides int) []int {
	if !isLoadByHand(load) {
		return nil
	}
	chain := []int{0}
	for len(chain) <= 100 {
		need, ok := needByHand(load, chain[len(chain)-1]+besides)
		if !ok {
			break
		}
		chain = append(chain, need)
	}
	return chain
}

// canJourney is what there is for both journeys.
type canJourney struct {
	name    string
	besides int
	before  func(int, int) (int, bool)
	cans    func(int, int) (int, bool)
	needs   func(int, int) ([]int, bool)
	miles   func(int, int) (int, bool)
}

func canJourneys() []canJourney {
	return []canJourney{
		{"Out", 0, impl.NeedForMile, impl.CansOut, impl.NeedsOut, impl.MilesOut},
		{"Back", 1, impl.NeedForBack, impl.CansBack, impl.NeedsBack, impl.MilesBack},
	}
}

// canLoads are all loads, those next to them, and hostile ones.
func canLoads() []int {
	return append(hostileInts(), numbers(-2, 24)...)
}

// canMiles are all numbers of miles, those next to them, and hostile ones.
func canMiles() []int {
	return append(hostileInts(), numbers(-2, 104)...)
}

// canNumbers are small numbers of cans, those that just fill few, 1000 or all possible trips, those whose needs are as great as can be, and the ones next to them.
func canNumbers(load int) []int {
	list := append(hostileInts(), numbers(-3, 130)...)
	for _, trips := range []int{1, 2, 3, 100, 999, 1000, 1001, 1002, 1000000, 50000000, 250000000, 333333333} {
		room := roomByHand(min(max(load, 2), 20), trips)
		list = append(list, numbers(room-2, room+3)...)
	}
	draw := rand.New(rand.NewPCG(7, uint64(load)))
	for range 60 {
		list = append(list, draw.IntN(20000), draw.IntN(mostCans))
	}
	return append(list, numbers(mostCans-3, mostCans+3)...)
}

// broughtByHand tells the most cans that any number of trips brings one mile on, -1 if no trip can be made.
func broughtByHand(load, cans int) int {
	most := -1
	for trips := 1; 2*trips-1 <= cans; trips++ {
		most = max(most, min(roomByHand(load, trips), cans-(2*trips-1)))
	}
	return most
}

func TestCanExamples(t *testing.T) {
	trips, ok := impl.TripsForMile(3, 3)
	expect(t, "TripsForMile", trips, ok, 2, true)
	loads, ok := impl.LoadsForMile(3, 3)
	expectList(t, "LoadsForMile", loads, ok, []int{1, 2}, true)
	need, ok := impl.NeedForMile(3, 3)
	expect(t, "NeedForMile", need, ok, 6, true)
	need, ok = impl.CansOut(3, 5)
	expect(t, "CansOut", need, ok, 15, true)
	needs, ok := impl.NeedsOut(3, 5)
	expectList(t, "NeedsOut", needs, ok, []int{15, 6, 3, 2, 1, 0}, true)
	exact, ok := impl.ExactOut(3, 4)
	expect(t, "ExactOut", exact, ok, am(6, 1), true)
	extra, ok := impl.ExtraOut(3, 4)
	expect(t, "ExtraOut", extra, ok, am(0, 1), true)
	need, ok = impl.CansBack(3, 1)
	expect(t, "CansBack 1", need, ok, 2, true)
	need, ok = impl.CansBack(3, 2)
	expect(t, "CansBack 2", need, ok, 6, true)
	if impl.MaxLoad != 20 || impl.MaxCans != mostCans {
		t.Error("limits", impl.MaxLoad, impl.MaxCans)
	}
}

// canRow is a call of a function of two numbers, and what it has to return, 0 and false if it fails.
type canRow struct {
	a, b int
	want int
	ok   bool
}

// checkCanRows tells results without the trips that the other tests are made with.
func checkCanRows(t *testing.T, name string, call func(int, int) (int, bool), rows []canRow) {
	t.Helper()
	for _, r := range rows {
		got, ok := call(r.a, r.b)
		expect(t, fmt.Sprint(name, " ", r.a, " ", r.b), got, ok, r.want, r.ok)
	}
}

func TestTripsForMileAtTheEdges(t *testing.T) {
	checkCanRows(t, "TripsForMile", impl.TripsForMile, []canRow{
		{2, 0, 1, true}, {2, 1, 1, true}, {2, 2, 0, false}, {2, 3, 0, false}, {2, 1000000000, 0, false},
		{3, 0, 1, true}, {3, 1, 1, true}, {3, 2, 1, true}, {3, 3, 2, true}, {3, 4, 3, true}, {3, 5, 4, true},
		{3, 1001, 1000, true}, {3, 1002, 1001, true}, {3, 1000000000, 999999999, true}, {3, 1000000001, 0, false},
		{4, 3, 1, true}, {4, 4, 2, true}, {4, 5, 2, true}, {4, 6, 3, true}, {4, 1000000000, 500000000, true},
		{20, 0, 1, true}, {20, 1, 1, true}, {20, 19, 1, true}, {20, 20, 2, true}, {20, 37, 2, true}, {20, 38, 3, true},
		{20, 999999991, 55555555, true}, {20, 999999992, 55555556, true}, {20, 1000000000, 55555556, true}, {20, 1000000001, 0, false},
		{1, 0, 0, false}, {1, 1, 0, false}, {21, 0, 0, false}, {21, 1, 0, false}, {0, 0, 0, false}, {-1, 1, 0, false},
		{2, -1, 0, false}, {3, -1, 0, false}, {20, -1, 0, false},
	})
}

func TestNeedForMileAtTheEdges(t *testing.T) {
	checkCanRows(t, "NeedForMile", impl.NeedForMile, []canRow{
		{2, 0, 1, true}, {2, 1, 2, true}, {2, 2, 0, false}, {2, 1000000000, 0, false},
		{3, 0, 1, true}, {3, 1, 2, true}, {3, 2, 3, true}, {3, 3, 6, true}, {3, 4, 9, true},
		{3, 333333334, 999999999, true}, {3, 333333335, 0, false}, {3, 1000000000, 0, false},
		{4, 3, 4, true}, {4, 4, 7, true}, {4, 5, 8, true}, {4, 6, 11, true},
		{4, 500000001, 1000000000, true}, {4, 500000002, 0, false},
		{20, 0, 1, true}, {20, 19, 20, true}, {20, 20, 23, true}, {20, 37, 40, true}, {20, 38, 43, true},
		{20, 900000001, 1000000000, true}, {20, 900000002, 0, false}, {20, 1000000000, 0, false}, {20, 1000000001, 0, false},
		{1, 0, 0, false}, {21, 0, 0, false}, {3, -1, 0, false},
	})
}

func TestNeedForBackAtTheEdges(t *testing.T) {
	checkCanRows(t, "NeedForBack", impl.NeedForBack, []canRow{
		{2, 0, 2, true}, {2, 1, 0, false}, {2, 2, 0, false},
		{3, 0, 2, true}, {3, 1, 3, true}, {3, 2, 6, true}, {3, 6, 18, true},
		{3, 333333333, 999999999, true}, {3, 333333334, 0, false},
		{4, 500000000, 1000000000, true}, {4, 500000001, 0, false},
		{20, 18, 20, true}, {20, 19, 23, true}, {20, 36, 40, true}, {20, 37, 43, true},
		{20, 900000000, 1000000000, true}, {20, 900000001, 0, false}, {20, 999999999, 0, false}, {20, 1000000000, 0, false}, {20, 1000000001, 0, false},
		{1, 0, 0, false}, {21, 0, 0, false}, {2, -1, 0, false}, {3, -1, 0, false}, {20, -1, 0, false}, {3, -2, 0, false},
	})
}

func TestLoadsForMileAtTheEdges(t *testing.T) {
	thousand := func(each, last int) []int {
		return append(slices.Repeat([]int{each}, 999), last)
	}
	rows := []struct {
		load, cans int
		want       []int
		ok         bool
	}{
		{2, 0, []int{0}, true}, {2, 1, []int{1}, true}, {2, 2, nil, false}, {2, 1000000000, nil, false},
		{3, 0, []int{0}, true}, {3, 1, []int{1}, true}, {3, 2, []int{2}, true}, {3, 4, []int{1, 1, 2}, true},
		{4, 3, []int{3}, true}, {4, 4, []int{2, 2}, true}, {4, 5, []int{2, 3}, true}, {4, 6, []int{2, 2, 2}, true},
		{5, 4, []int{4}, true}, {5, 5, []int{3, 2}, true}, {5, 6, []int{3, 3}, true}, {5, 7, []int{3, 4}, true}, {5, 8, []int{3, 3, 2}, true},
		{20, 0, []int{0}, true}, {20, 19, []int{19}, true}, {20, 20, []int{18, 2}, true}, {20, 37, []int{18, 19}, true}, {20, 38, []int{18, 18, 2}, true},
		{3, 1001, thousand(1, 2), true}, {3, 1002, nil, false}, {3, 1000000000, nil, false},
		{4, 2000, thousand(2, 2), true}, {4, 2001, thousand(2, 3), true}, {4, 2002, nil, false},
		{20, 17984, thousand(18, 2), true}, {20, 18001, thousand(18, 19), true}, {20, 18002, nil, false}, {20, 1000000000, nil, false},
		{1, 0, nil, false}, {1, 1, nil, false}, {21, 0, nil, false}, {21, 1, nil, false}, {3, -1, nil, false}, {20, 1000000001, nil, false},
	}
	for _, r := range rows {
		got, ok := impl.LoadsForMile(r.load, r.cans)
		expectList(t, fmt.Sprint("LoadsForMile ", r.load, " ", r.cans), got, ok, r.want, r.ok)
	}
}

func TestCansAtTheEdges(t *testing.T) {
	checkCanRows(t, "CansOut", impl.CansOut, []canRow{
		{2, 0, 0, true}, {2, 1, 1, true}, {2, 2, 2, true}, {2, 3, 0, false}, {2, 100, 0, false},
		{3, 0, 0, true}, {3, 1, 1, true}, {3, 3, 3, true}, {3, 4, 6, true}, {3, 6, 42, true}, {3, 21, 581130735, true}, {3, 22, 0, false}, {3, 100, 0, false},
		{4, 4, 4, true}, {4, 5, 7, true}, {4, 32, 715827884, true}, {4, 33, 0, false},
		{10, 92, 804203256, true}, {10, 93, 0, false}, {11, 100, 578588772, true}, {11, 101, 0, false},
		{20, 0, 0, true}, {20, 20, 20, true}, {20, 21, 23, true}, {20, 100, 92232, true}, {20, 101, 0, false},
		{1, 0, 0, false}, {1, 1, 0, false}, {21, 0, 0, false}, {21, 1, 0, false}, {3, -1, 0, false}, {20, -1, 0, false},
	})
	checkCanRows(t, "CansBack", impl.CansBack, []canRow{
		{2, 0, 0, true}, {2, 1, 2, true}, {2, 2, 0, false}, {2, 100, 0, false},
		{3, 0, 0, true}, {3, 1, 2, true}, {3, 2, 6, true}, {3, 3, 18, true}, {3, 19, 774840978, true}, {3, 20, 0, false},
		{4, 2, 4, true}, {4, 3, 8, true}, {4, 29, 536870912, true}, {4, 30, 0, false},
		{10, 86, 928295048, true}, {10, 87, 0, false}, {11, 95, 994686478, true}, {11, 96, 0, false},
		{20, 0, 0, true}, {20, 10, 20, true}, {20, 100, 379934, true}, {20, 101, 0, false},
		{1, 0, 0, false}, {1, 1, 0, false}, {21, 0, 0, false}, {21, 1, 0, false}, {3, -1, 0, false}, {20, -1, 0, false},
	})
}

func TestNeedsAtTheEdges(t *testing.T) {
	rows := []struct {
		journey     int
		load, miles int
		want        []int
		ok          bool
	}{
		{0, 2, 0, []int{0}, true}, {0, 2, 1, []int{1, 0}, true}, {0, 2, 2, []int{2, 1, 0}, true}, {0, 2, 3, nil, false},
		{0, 3, 0, []int{0}, true}, {0, 3, 7, []int{123, 42, 15, 6, 3, 2, 1, 0}, true}, {0, 3, 22, nil, false},
		{0, 4, 6, []int{12, 7, 4, 3, 2, 1, 0}, true}, {0, 10, 93, nil, false}, {0, 20, 101, nil, false},
		{0, 20, -1, nil, false}, {0, 1, 0, nil, false}, {0, 21, 0, nil, false},
		{1, 2, 0, []int{0}, true}, {1, 2, 1, []int{2, 0}, true}, {1, 2, 2, nil, false},
		{1, 3, 0, []int{0}, true}, {1, 3, 4, []int{54, 18, 6, 2, 0}, true}, {1, 3, 20, nil, false},
		{1, 4, 5, []int{32, 16, 8, 4, 2, 0}, true}, {1, 11, 96, nil, false}, {1, 20, 101, nil, false},
		{1, 20, -1, nil, false}, {1, 1, 0, nil, false}, {1, 21, 0, nil, false},
	}
	for _, r := range rows {
		j := canJourneys()[r.journey]
		got, ok := j.needs(r.load, r.miles)
		expectList(t, fmt.Sprint("Needs", j.name, " ", r.load, " ", r.miles), got, ok, r.want, r.ok)
	}
}

func TestMilesAtTheEdges(t *testing.T) {
	checkCanRows(t, "MilesOut", impl.MilesOut, []canRow{
		{2, 0, 0, true}, {2, 1, 1, true}, {2, 2, 2, true}, {2, 3, 2, true}, {2, 1000000000, 2, true},
		{3, 0, 0, true}, {3, 1, 1, true}, {3, 5, 3, true}, {3, 6, 4, true}, {3, 14, 4, true}, {3, 15, 5, true},
		{3, 581130734, 20, true}, {3, 581130735, 21, true}, {3, 1000000000, 21, true},
		{10, 804203255, 91, true}, {10, 804203256, 92, true}, {10, 1000000000, 92, true},
		{11, 578588771, 99, true}, {11, 578588772, 100, true}, {11, 1000000000, 100, true},
		{20, 0, 0, true}, {20, 19, 19, true}, {20, 20, 20, true}, {20, 22, 20, true}, {20, 23, 21, true},
		{20, 92231, 99, true}, {20, 92232, 100, true}, {20, 92233, 100, true}, {20, 1000000000, 100, true},
		{20, 1000000001, 0, false}, {20, -1, 0, false}, {1, 0, 0, false}, {21, 0, 0, false}, {1, 5, 0, false}, {21, 5, 0, false},
	})
	checkCanRows(t, "MilesBack", impl.MilesBack, []canRow{
		{2, 0, 0, true}, {2, 1, 0, true}, {2, 2, 1, true}, {2, 3, 1, true}, {2, 1000000000, 1, true},
		{3, 0, 0, true}, {3, 1, 0, true}, {3, 2, 1, true}, {3, 5, 1, true}, {3, 6, 2, true}, {3, 17, 2, true}, {3, 18, 3, true},
		{3, 774840977, 18, true}, {3, 774840978, 19, true}, {3, 1000000000, 19, true},
		{11, 994686477, 94, true}, {11, 994686478, 95, true}, {11, 1000000000, 95, true},
		{20, 0, 0, true}, {20, 19, 9, true}, {20, 20, 10, true},
		{20, 379933, 99, true}, {20, 379934, 100, true}, {20, 379935, 100, true}, {20, 1000000000, 100, true},
		{20, 1000000001, 0, false}, {20, -1, 0, false}, {1, 0, 0, false}, {21, 0, 0, false}, {1, 5, 0, false}, {21, 5, 0, false},
	})
}

func TestCansAfterAtTheEdges(t *testing.T) {
	checkCanRows(t, "CansAfter", impl.CansAfter, []canRow{
		{2, 1, 0, true}, {2, 2, 1, true}, {2, 3, 1, true}, {2, 1000000000, 1, true},
		{3, 1, 0, true}, {3, 2, 1, true}, {3, 3, 2, true}, {3, 4, 2, true}, {3, 5, 2, true}, {3, 6, 3, true}, {3, 8, 3, true}, {3, 9, 4, true},
		{3, 999999998, 333333333, true}, {3, 999999999, 333333334, true}, {3, 1000000000, 333333334, true},
		{4, 999999998, 499999999, true}, {4, 999999999, 500000000, true}, {4, 1000000000, 500000001, true},
		{20, 1, 0, true}, {20, 2, 1, true}, {20, 20, 19, true}, {20, 21, 19, true}, {20, 22, 19, true}, {20, 23, 20, true},
		{20, 1000000000, 900000001, true}, {20, 1000000001, 0, false},
		{2, 0, 0, false}, {3, 0, 0, false}, {20, 0, 0, false}, {20, -1, 0, false}, {1, 1, 0, false}, {1, 5, 0, false}, {21, 1, 0, false}, {21, 5, 0, false},
	})
}

func TestLeastLoadAtTheEdges(t *testing.T) {
	checkCanRows(t, "LeastLoad", impl.LeastLoad, []canRow{
		{0, 0, 2, true}, {1, 0, 2, true}, {1000000000, 0, 2, true}, {0, 1, 0, false}, {1, 1, 2, true}, {1, 2, 0, false}, {2, 2, 2, true},
		{2, 3, 0, false}, {3, 3, 3, true}, {1000000000, 3, 3, true}, {6, 4, 3, true}, {5, 4, 4, true}, {4, 4, 4, true}, {3, 4, 0, false},
		{15, 5, 3, true}, {14, 5, 4, true}, {19, 20, 0, false}, {20, 20, 20, true}, {21, 20, 20, true}, {22, 20, 19, true},
		{581130735, 21, 3, true}, {581130734, 21, 4, true}, {1000000000, 22, 4, true},
		{92231, 100, 0, false}, {92232, 100, 20, true}, {153085, 100, 20, true}, {153086, 100, 19, true},
		{578588771, 100, 12, true}, {578588772, 100, 11, true}, {1000000000, 100, 11, true},
		{1000000000, 101, 0, false}, {1000000000, -1, 0, false}, {1000000001, 0, 0, false}, {1000000001, 1, 0, false}, {-1, 0, 0, false}, {-1, 1, 0, false},
	})
}

func TestExactAndExtraAtTheEdges(t *testing.T) {
	none := amount{}
	rows := []struct {
		load, miles     int
		exact, extra    amount
		exactOk, moreOk bool
	}{
		{2, 0, am(0, 1), am(0, 1), true, true}, {2, 1, am(1, 1), am(0, 1), true, true}, {2, 2, am(2, 1), am(0, 1), true, true},
		// The least fuel is an amount here, but no number of cans is enough.
		{2, 3, am(17, 3), none, true, false}, {2, 4, am(46084, 3003), none, true, false},
		{2, 5, none, none, false, false},
		{3, 0, am(0, 1), am(0, 1), true, true}, {3, 3, am(3, 1), am(0, 1), true, true}, {3, 5, am(59, 5), am(16, 5), true, true},
		{3, 6, am(23042, 1001), am(19000, 1001), true, true}, {3, 7, none, none, false, false}, {3, 22, none, none, false, false},
		{15, 31, am(394717, 3003), am(10688, 3003), true, true}, {15, 32, none, none, false, false},
		{19, 40, am(137757106, 765765), am(12332834, 765765), true, true}, {19, 41, none, none, false, false},
		{20, 0, am(0, 1), am(0, 1), true, true}, {20, 1, am(1, 1), am(0, 1), true, true}, {20, 20, am(20, 1), am(0, 1), true, true}, {20, 21, am(23, 1), am(0, 1), true, true},
		{20, 42, am(28695190, 153153), am(2548022, 153153), true, true}, {20, 43, none, none, false, false}, {20, 100, none, none, false, false},
		{20, 101, none, none, false, false}, {20, -1, none, none, false, false},
		{1, 0, none, none, false, false}, {1, 1, none, none, false, false}, {21, 0, none, none, false, false}, {21, 1, none, none, false, false}, {0, 0, none, none, false, false},
	}
	for _, r := range rows {
		what := fmt.Sprint(r.load, " ", r.miles)
		exact, ok := impl.ExactOut(r.load, r.miles)
		expect(t, "ExactOut "+what, exact, ok, r.exact, r.exactOk)
		extra, ok := impl.ExtraOut(r.load, r.miles)
		expect(t, "ExtraOut "+what, extra, ok, r.extra, r.moreOk)
	}
}

// checkMile calls all functions of one mile, for any numbers.
func checkMile(t *testing.T, load, cans int) {
	t.Helper()
	what := fmt.Sprint(" ", load, " ", cans)
	wantTrips, wantOk := tripsByHand(load, cans)
	trips, ok := impl.TripsForMile(load, cans)
	expect(t, "TripsForMile"+what, trips, ok, wantTrips, wantOk)
	wantNeed, wantOk := needByHand(load, cans)
	need, ok := impl.NeedForMile(load, cans)
	expect(t, "NeedForMile"+what, need, ok, wantNeed, wantOk)
	wantLoads, wantOk := loadsByHand(load, cans)
	loads, ok := impl.LoadsForMile(load, cans)
	expectList(t, "LoadsForMile"+what, loads, ok, wantLoads, wantOk)
	if ok {
		checkLoads(t, load, cans, loads)
	}
	wantNeed, wantOk = 0, false
	if areCansByHand(cans) {
		wantNeed, wantOk = needByHand(load, cans+1)
	}
	need, ok = impl.NeedForBack(load, cans)
	expect(t, "NeedForBack"+what, need, ok, wantNeed, wantOk)
	checkAfter(t, load, cans)
}

// checkLoads drives all trips: no load is too great, and what is needed is used up.
func checkLoads(t *testing.T, load, cans int, loads []int) {
	t.Helper()
	need, ok := impl.NeedForMile(load, cans)
	here, there := need, 0
	for i, left := range loads {
		driven := 2
		if i == len(loads)-1 {
			driven = 1
		}
		if left < 0 || left+driven > load {
			t.Error("LoadsForMile", load, cans, "takes too much on trip", i, loads)
		}
		here -= left + driven
		there += left
	}
	if !ok || here != 0 || there != cans {
		t.Error("LoadsForMile", load, cans, loads, "leaves", here, "and brings", there)
	}
	if len(loads) > 1 && roomByHand(load, len(loads)-1) >= cans {
		t.Error("LoadsForMile", load, cans, "makes too many trips", len(loads))
	}
}

func checkAfter(t *testing.T, load, cans int) {
	t.Helper()
	after, ok := impl.CansAfter(load, cans)
	if !isLoadByHand(load) || cans < 1 || cans > mostCans {
		expect(t, fmt.Sprint("CansAfter ", load, " ", cans), after, ok, 0, false)
		return
	}
	need, needOk := needByHand(load, after)
	more, moreOk := needByHand(load, after+1)
	if !ok || !needOk || need > cans || moreOk && more <= cans {
		t.Error("CansAfter", load, cans, after, ok, need, more)
	}
}

func TestOneMile(t *testing.T) {
	for _, load := range canLoads() {
		for _, cans := range canNumbers(load) {
			checkMile(t, load, cans)
		}
	}
}

// TestNoTripsBringMore tries all numbers of trips: with one can less than needed none of them brings as many on.
func TestNoTripsBringMore(t *testing.T) {
	for load := 2; load <= 20; load++ {
		for cans := range 500 {
			need, ok := impl.NeedForMile(load, cans)
			if !ok {
				if load != 2 || cans < 2 {
					t.Error("NeedForMile", load, cans, "fails")
				}
				continue
			}
			if broughtByHand(load, need) < cans || broughtByHand(load, need-1) >= cans {
				t.Error("NeedForMile", load, cans, need, "brings", broughtByHand(load, need), broughtByHand(load, need-1))
			}
			after, ok := impl.CansAfter(load, cans+1)
			expect(t, fmt.Sprint("CansAfter ", load, " ", cans+1), after, ok, broughtByHand(load, cans+1), true)
		}
	}
}

// TestCansGoOnMileByMile holds what is needed for one mile more against what is needed for the others.
func TestCansGoOnMileByMile(t *testing.T) {
	for _, j := range canJourneys() {
		for load := 2; load <= 20; load++ {
			for miles := range 100 {
				cans, ok := j.cans(load, miles)
				var want int
				wantOk := false
				if ok {
					want, wantOk = j.before(load, cans)
				}
				more, moreOk := j.cans(load, miles+1)
				expect(t, fmt.Sprint("Cans", j.name, " ", load, " ", miles+1), more, moreOk, want, wantOk)
			}
		}
	}
}

func TestManyMiles(t *testing.T) {
	for _, load := range canLoads() {
		for _, j := range canJourneys() {
			chain := chainByHand(load, j.besides)
			for _, miles := range canMiles() {
				checkMiles(t, j, load, miles, chain)
			}
		}
	}
}

func checkMiles(t *testing.T, j canJourney, load, miles int, chain []int) {
	t.Helper()
	what := fmt.Sprint(j.name, " ", load, " ", miles)
	cans, ok := j.cans(load, miles)
	needs, needsOk := j.needs(load, miles)
	if miles < 0 || miles >= len(chain) {
		expect(t, "Cans"+what, cans, ok, 0, false)
		expectList(t, "Needs"+what, needs, needsOk, nil, false)
		return
	}
	want := slices.Clone(chain[:miles+1])
	slices.Reverse(want)
	expect(t, "Cans"+what, cans, ok, want[0], true)
	expectList(t, "Needs"+what, needs, needsOk, want, true)
	for mile, need := range needs[:miles] {
		before, ok := j.before(load, needs[mile+1])
		expect(t, fmt.Sprint("Needs", what, " at ", mile), need, true, before, ok)
	}
}

// TestMilesForCans goes through all numbers of cans that just suffice for some miles, and those next to them.
func TestMilesForCans(t *testing.T) {
	for _, load := range canLoads() {
		for _, j := range canJourneys() {
			chain := chainByHand(load, j.besides)
			list := canNumbers(load)
			for _, need := range chain {
				list = append(list, need-1, need, need+1)
			}
			for _, cans := range list {
				want, wantOk := 0, len(chain) > 0 && areCansByHand(cans)
				for miles, need := range chain {
					if wantOk && need <= cans {
						want = miles
					}
				}
				got, ok := j.miles(load, cans)
				expect(t, fmt.Sprint("Miles", j.name, " ", load, " ", cans), got, ok, want, wantOk)
			}
		}
	}
}

// TestLeastLoads goes, for each number of miles, through all numbers of cans that just suffice with some load, and those next to them.
func TestLeastLoads(t *testing.T) {
	chains := map[int][]int{}
	for load := 2; load <= 20; load++ {
		chains[load] = chainByHand(load, 0)
	}
	for _, miles := range canMiles() {
		list := hostileInts()
		for load := 2; load <= 20; load++ {
			if miles >= 0 && miles < len(chains[load]) {
				need := chains[load][miles]
				list = append(list, need-1, need, need+1)
			}
		}
		for _, cans := range list {
			want, wantOk := 0, false
			for load := 20; load >= 2 && areCansByHand(cans) && miles >= 0; load-- {
				if miles < len(chains[load]) && chains[load][miles] <= cans {
					want, wantOk = load, true
				}
			}
			got, ok := impl.LeastLoad(cans, miles)
			expect(t, fmt.Sprint("LeastLoad ", cans, " ", miles), got, ok, want, wantOk)
		}
	}
}

// exactByHand burns a load for each tank of least fuel.
func exactByHand(load, miles int) (amount, bool) {
	if !isLoadByHand(load) || miles < 0 || miles > 100 {
		return amount{}, false
	}
	tanks, ok := leastByHand(rat(miles, load), out)
	if !ok {
		return amount{}, false
	}
	return amountOf(product(rat(load, 1), tanks))
}

// TestExactAndExtra finds whole cans never less than exact fuel.
func TestExactAndExtra(t *testing.T) {
	for _, load := range canLoads() {
		chain := chainByHand(load, 0)
		for _, miles := range canMiles() {
			what := fmt.Sprint(load, " ", miles)
			want, wantOk := exactByHand(load, miles)
			exact, ok := impl.ExactOut(load, miles)
			expect(t, "ExactOut "+what, exact, ok, want, wantOk)
			more, moreOk := amount{}, false
			if wantOk && miles < len(chain) {
				more, moreOk = amountOf(less(rat(chain[miles], 1), ratOf(want)))
				if !moreOk {
					t.Error("whole cans are less than exact fuel", what)
				}
			}
			extra, ok := impl.ExtraOut(load, miles)
			expect(t, "ExtraOut "+what, extra, ok, more, moreOk)
		}
	}
}

// TestExactIsLeastFuel holds the amounts against chapter 3: they fail together, which is where more than all tanks are needed.
func TestExactIsLeastFuel(t *testing.T) {
	for load := 2; load <= 20; load++ {
		for miles := range 101 {
			way, _ := amountOf(rat(miles, load))
			want, wantOk := impl.FuelOut(way)
			want, _ = impl.TimesAmount(want, am(load, 1))
			exact, ok := impl.ExactOut(load, miles)
			expect(t, fmt.Sprint("ExactOut ", load, " ", miles), exact, ok, want, wantOk)
			cans, cansOk := impl.CansOut(load, miles)
			extra, ok := impl.ExtraOut(load, miles)
			if ok != (wantOk && cansOk) {
				t.Error("ExtraOut", load, miles, extra, ok)
			}
			if ok {
				sum, sumOk := impl.AddAmounts(exact, extra)
				expect(t, fmt.Sprint("ExactOut and ExtraOut ", load, " ", miles), sum, sumOk, am(cans, 1), true)
			}
		}
	}
}

// canLists are all functions of this chapter that return lists.
func canLists() map[string]func(int, int) ([]int, bool) {
	return map[string]func(int, int) ([]int, bool){"LoadsForMile": impl.LoadsForMile, "NeedsOut": impl.NeedsOut, "NeedsBack": impl.NeedsBack}
}

// TestHostileCans calls all functions with hostile numbers: they fail for arguments that are none, and every result is zero where they fail.
func TestHostileCans(t *testing.T) {
	for _, load := range canLoads() {
		for _, number := range hostileInts() {
			checkHostileNumbers(t, load, number)
			checkHostileLists(t, load, number)
			checkHostileAmounts(t, load, number)
		}
	}
	for _, cans := range hostileInts() {
		for _, miles := range hostileInts() {
			got, ok := impl.LeastLoad(cans, miles)
			if ok && (!areCansByHand(cans) || miles < 0 || miles > 100) || ok != isLoadByHand(got) || !ok && got != 0 {
				t.Error("LeastLoad", cans, miles, got, ok)
			}
		}
	}
}

// mayBeCalled leaves out only what no function with a load takes, be the other number cans or miles.
func mayBeCalled(load, number int) bool {
	return isLoadByHand(load) && areCansByHand(number)
}

func checkHostileNumbers(t *testing.T, load, number int) {
	t.Helper()
	calls := map[string]func(int, int) (int, bool){
		"TripsForMile": impl.TripsForMile, "NeedForMile": impl.NeedForMile, "NeedForBack": impl.NeedForBack, "CansAfter": impl.CansAfter,
		"CansOut": impl.CansOut, "CansBack": impl.CansBack, "MilesOut": impl.MilesOut, "MilesBack": impl.MilesBack,
	}
	for name, call := range calls {
		got, ok := call(load, number)
		if ok && !mayBeCalled(load, number) || !ok && got != 0 || got < 0 {
			t.Error(name, load, number, got, ok)
		}
	}
}

func checkHostileLists(t *testing.T, load, number int) {
	t.Helper()
	for name, call := range canLists() {
		got, ok := call(load, number)
		if ok && !mayBeCalled(load, number) || ok != (len(got) > 0) {
			t.Error(name, load, number, got, ok)
		}
	}
}

func checkHostileAmounts(t *testing.T, load, number int) {
	t.Helper()
	for name, call := range map[string]func(int, int) (amount, bool){"ExactOut": impl.ExactOut, "ExtraOut": impl.ExtraOut} {
		got, ok := call(load, number)
		if ok && !mayBeCalled(load, number) || ok != isAmountByHand(got) || !ok && got != (amount{}) {
			t.Error(name, load, number, got, ok)
		}
	}
}

// TestCanListsAreKeptApart changes the results of calls, and what is behind them, and looks at those of other calls.
func TestCanListsAreKeptApart(t *testing.T) {
	for name, call := range canLists() {
		for load := 3; load <= 20; load++ {
			for _, number := range []int{0, 1, 2, 5, 19, 20} {
				first, ok := call(load, number)
				if !ok {
					continue
				}
				other, _ := call(load, number)
				kept := slices.Clone(first)
				scrambled(first)
				again, ok := call(load, number)
				what := fmt.Sprint(name, " ", load, " ", number)
				expectList(t, what+" called before", other, true, kept, true)
				expectList(t, what+" called behind", again, ok, kept, true)
			}
		}
	}
}

// TestCansAtOnce makes the same calls many times at once, which must neither disturb each other nor leave anything running.
func TestCansAtOnce(t *testing.T) {
	running := runtime.NumGoroutine()
	var all sync.WaitGroup
	for load := 2; load <= 20; load++ {
		all.Go(func() {
			for range 5 {
				for _, j := range canJourneys() {
					chain := chainByHand(load, j.besides)
					checkMiles(t, j, load, len(chain)-1, chain)
					checkMiles(t, j, load, len(chain), chain)
					miles, ok := j.miles(load, mostCans)
					expect(t, fmt.Sprint("Miles", j.name, " ", load), miles, ok, len(chain)-1, true)
				}
			}
		})
	}
	all.Wait()
	for range 1000 {
		if runtime.NumGoroutine() <= running {
			return
		}
		time.Sleep(time.Millisecond)
	}
	t.Error("goroutines are left:", runtime.NumGoroutine()-running)
}
