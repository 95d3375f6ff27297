package tests

import (
	"fmt"
	"math/big"
	"math/rand/v2"
	"slices"
	"testing"

	"loop.example/g01258/impl"
)

type handover = impl.Handover

func han(at, gives, keeps amount) handover {
	return handover{At: at, Gives: gives, Keeps: keeps}
}

func rat(num, den int) *big.Rat {
	return big.NewRat(int64(num), int64(den))
}

func sum(a, b *big.Rat) *big.Rat {
	return new(big.Rat).Add(a, b)
}

func less(a, b *big.Rat) *big.Rat {
	return new(big.Rat).Sub(a, b)
}

func product(a, b *big.Rat) *big.Rat {
	return new(big.Rat).Mul(a, b)
}

func stayReachByHand(n int) *big.Rat {
	reach := new(big.Rat)
	for k := 1; k <= n; k++ {
		reach = sum(reach, rat(1, k))
	}
	return reach
}

func backReachByHand(n int) *big.Rat {
	return less(rat(2, 1), rat(2, n+1))
}

func returnReachByHand(n int) *big.Rat {
	return less(rat(1, 1), rat(1, n+1))
}

func rescueReachByHand(helpers int) *big.Rat {
	return rat(helpers, helpers+2)
}

func ringReachByHand(n int) *big.Rat {
	return sum(backReachByHand(n), rescueReachByHand(n-1))
}

func lastFullByHand(n int) *big.Rat {
	return less(rat(1, 1), rat(2, n+1))
}

// relayReach is a function of a number of vehicles, what it has to return, and the function that undoes it, if there is one.
type relayReach struct {
	name   string
	call   func(int) (amount, bool)
	byHand func(int) *big.Rat
	fewest func(amount) (int, bool)
}

func relayReaches() []relayReach {
	return []relayReach{
		{"StayReach", impl.StayReach, stayReachByHand, impl.VehiclesToStay},
		{"BackReach", impl.BackReach, backReachByHand, impl.VehiclesToGo},
		{"ReturnReach", impl.ReturnReach, returnReachByHand, impl.VehiclesToReturn},
		{"RingReach", impl.RingReach, ringReachByHand, impl.VehiclesForRing},
		{"RescueReach", impl.RescueReach, rescueReachByHand, nil},
		{"LastFull", impl.LastFull, lastFullByHand, nil},
		{"DrivenByAll", impl.DrivenByAll, func(n int) *big.Rat { return rat(n, 1) }, nil},
	}
}

// relayNumbers are all valid numbers of vehicles, those next to them, and hostile ones.
func relayNumbers() []int {
	list := hostileInts()
	for n := -3; n <= 25; n++ {
		list = append(list, n)
	}
	return list
}

func areVehiclesByHand(n int) bool {
	return n >= 1 && n <= 20
}

func TestRelayExamples(t *testing.T) {
	back, ok := impl.BackStops(3)
	expectList(t, "BackStops 3", back, ok, []handover{han(am(1, 4), am(1, 2), am(1, 4)), han(am(1, 2), am(1, 4), am(1, 2))}, true)
	stay, ok := impl.StayStops(3)
	expectList(t, "StayStops 3", stay, ok, []handover{han(am(1, 3), am(2, 3), am(0, 1)), han(am(5, 6), am(1, 2), am(0, 1))}, true)
	way, ok := impl.BackReach(3)
	expect(t, "BackReach 3", way, ok, am(3, 2), true)
	way, ok = impl.StayReach(3)
	expect(t, "StayReach 3", way, ok, am(11, 6), true)
	way, ok = impl.RescueReach(2)
	expect(t, "RescueReach 2", way, ok, am(1, 2), true)
	way, ok = impl.RingReach(3)
	expect(t, "RingReach 3", way, ok, am(2, 1), true)
}

// TestReachesOfRelays holds all functions of a number of vehicles against what the document tells.
func TestReachesOfRelays(t *testing.T) {
	if impl.MaxHelpers != 20 {
		t.Error("limit", impl.MaxHelpers)
	}
	for _, r := range relayReaches() {
		for _, n := range relayNumbers() {
			var want amount
			valid := areVehiclesByHand(n)
			if valid {
				want, _ = amountOf(r.byHand(n))
			}
			got, ok := r.call(n)
			expect(t, fmt.Sprint(r.name, " ", n), got, ok, want, valid)
		}
	}
}

// TestRelayReachesAtTheEdges tells results without the formulas that the other tests are made with.
func TestRelayReachesAtTheEdges(t *testing.T) {
	rows := []struct {
		name              string
		call              func(int) (amount, bool)
		one, two, atLimit amount
	}{
		{"StayReach", impl.StayReach, am(1, 1), am(3, 2), am(55835135, 15519504)},
		{"BackReach", impl.BackReach, am(1, 1), am(4, 3), am(40, 21)},
		{"ReturnReach", impl.ReturnReach, am(1, 2), am(2, 3), am(20, 21)},
		{"RescueReach", impl.RescueReach, am(1, 3), am(1, 2), am(10, 11)},
		{"RingReach", impl.RingReach, am(1, 1), am(5, 3), am(59, 21)},
		{"DrivenByAll", impl.DrivenByAll, am(1, 1), am(2, 1), am(20, 1)},
		{"LastFull", impl.LastFull, am(0, 1), am(1, 3), am(19, 21)},
	}
	for _, r := range rows {
		for n, want := range map[int]amount{1: r.one, 2: r.two, 20: r.atLimit} {
			got, ok := r.call(n)
			expect(t, fmt.Sprint(r.name, " ", n), got, ok, want, true)
		}
		for _, n := range []int{-1, 0, 21} {
			got, ok := r.call(n)
			expect(t, fmt.Sprint(r.name, " ", n), got, ok, amount{}, false)
		}
	}
}

// relayStops is a function that returns handovers, and what they have to be: the number of them for n, and each one by its index.
type relayStops struct {
	name   string
	call   func(int) ([]handover, bool)
	count  func(n int) int
	byHand func(n, i int) (at, gives, keeps *big.Rat)
}

func relayLists() []relayStops {
	allButOne := func(n int) int { return n - 1 }
	return []relayStops{
		{"StayStops", impl.StayStops, allButOne, stayStopByHand},
		{"BackStops", impl.BackStops, allButOne, backStopByHand},
		{"RescueStops", impl.RescueStops, func(n int) int { return n }, rescueStopByHand},
	}
}

// stayStopByHand goes 1 / k farther with k vehicles left, up to the helper with the index.
func stayStopByHand(n, i int) (at, gives, keeps *big.Rat) {
	at = new(big.Rat)
	for k := n; k >= n-i; k-- {
		at = sum(at, rat(1, k))
	}
	return at, less(rat(1, 1), rat(1, n-i)), new(big.Rat)
}

func backStopByHand(n, i int) (at, gives, keeps *big.Rat) {
	at = rat(i+1, n+1)
	left := less(rat(1, 1), rat(1, n+1))
	return at, less(left, at), at
}

func rescueStopByHand(helpers, i int) (at, gives, keeps *big.Rat) {
	part := rat(1, helpers+2)
	at = less(rescueReachByHand(helpers), product(rat(i, 1), part))
	left := less(rat(1, 1), at)
	return at, less(left, part), part
}

func TestHandovers(t *testing.T) {
	for _, l := range relayLists() {
		for _, n := range relayNumbers() {
			var want []handover
			valid := areVehiclesByHand(n)
			for i := 0; valid && i < l.count(n); i++ {
				at, gives, keeps := l.byHand(n, i)
				var h handover
				h.At, _ = amountOf(at)
				h.Gives, _ = amountOf(gives)
				h.Keeps, _ = amountOf(keeps)
				want = append(want, h)
			}
			got, ok := l.call(n)
			expectList(t, fmt.Sprint(l.name, " ", n), got, ok, want, valid)
		}
	}
}

func TestHandoversAtTheEdges(t *testing.T) {
	none := []handover{}
	rows := []struct {
		name string
		call func(int) ([]handover, bool)
		n    int
		want []handover
		ok   bool
	}{
		{"StayStops", impl.StayStops, 0, none, false},
		{"StayStops", impl.StayStops, 1, none, true},
		{"StayStops", impl.StayStops, 2, []handover{han(am(1, 2), am(1, 2), am(0, 1))}, true},
		{"StayStops", impl.StayStops, 21, none, false},
		{"BackStops", impl.BackStops, 0, none, false},
		{"BackStops", impl.BackStops, 1, none, true},
		{"BackStops", impl.BackStops, 2, []handover{han(am(1, 3), am(1, 3), am(1, 3))}, true},
		{"BackStops", impl.BackStops, 21, none, false},
		{"RescueStops", impl.RescueStops, 0, none, false},
		{"RescueStops", impl.RescueStops, 1, []handover{han(am(1, 3), am(1, 3), am(1, 3))}, true},
		{"RescueStops", impl.RescueStops, 2, []handover{han(am(1, 2), am(1, 4), am(1, 4)), han(am(1, 4), am(1, 2), am(1, 4))}, true},
		{"RescueStops", impl.RescueStops, 21, none, false},
	}
	for _, r := range rows {
		got, ok := r.call(r.n)
		expectList(t, fmt.Sprint(r.name, " ", r.n), got, ok, r.want, r.ok)
	}
}

// TestHandoversOfMaxHelpers looks at the ends of the longest lists.
func TestHandoversOfMaxHelpers(t *testing.T) {
	rows := []struct {
		name        string
		call        func(int) ([]handover, bool)
		count       int
		first, last handover
	}{
		{"StayStops", impl.StayStops, 19, han(am(1, 20), am(19, 20), am(0, 1)), han(am(40315631, 15519504), am(1, 2), am(0, 1))},
		{"BackStops", impl.BackStops, 19, han(am(1, 21), am(19, 21), am(1, 21)), han(am(19, 21), am(1, 21), am(19, 21))},
		{"RescueStops", impl.RescueStops, 20, han(am(10, 11), am(1, 22), am(1, 22)), han(am(1, 22), am(10, 11), am(1, 22))},
	}
	for _, r := range rows {
		got, ok := r.call(20)
		if !ok || len(got) != r.count {
			t.Error(r.name, "of 20:", got, ok)
			continue
		}
		expect(t, r.name+" first", got[0], ok, r.first, true)
		expect(t, r.name+" last", got[len(got)-1], ok, r.last, true)
	}
}

// driven plays a relay out: all tanks are filled at each handover, from which on there is one vehicle less.
// It returns the way that all drive on together but helpers home, and how far the last one comes.
func driven(t *testing.T, what string, n int, list []handover) (together, farthest *big.Rat) {
	t.Helper()
	full, place, together := rat(1, 1), new(big.Rat), new(big.Rat)
	for i, h := range list {
		left := n - i
		part := less(ratOf(h.At), place)
		if part.Sign() <= 0 {
			t.Error(what, "is not farther at", i)
		}
		together = sum(together, product(rat(left, 1), part))
		place = ratOf(h.At)
		tank := less(full, part)
		if sum(ratOf(h.Gives), ratOf(h.Keeps)).Cmp(tank) != 0 {
			t.Error(what, "does not give and keep all at", i)
		}
		filled := sum(tank, product(ratOf(h.Gives), rat(1, left-1)))
		if filled.Cmp(full) != 0 {
			t.Error(what, "fills up to", filled, "at", i)
		}
	}
	return sum(together, full), sum(place, full)
}

// TestHelpersWhoStay plays their relays: helpers keep nothing, tanks are full again, and all fuel is driven.
func TestHelpersWhoStay(t *testing.T) {
	for n := 1; n <= 20; n++ {
		what := fmt.Sprint("StayStops ", n)
		list, _ := impl.StayStops(n)
		together, farthest := driven(t, what, n, list)
		for i, h := range list {
			if h.Keeps != am(0, 1) {
				t.Error(what, "keeps", h.Keeps, "at", i)
			}
		}
		reach, ok := impl.StayReach(n)
		if len(list) != n-1 || !ok || farthest.Cmp(ratOf(reach)) != 0 || together.Cmp(rat(n, 1)) != 0 {
			t.Error(what, len(list), "lead to", farthest, "not", reach, "all driving", together)
		}
	}
}

// TestHelpersWhoTurnBack plays their relays: helpers keep their way home, tanks are full again, and all fuel is driven.
func TestHelpersWhoTurnBack(t *testing.T) {
	for n := 1; n <= 20; n++ {
		what := fmt.Sprint("BackStops ", n)
		list, _ := impl.BackStops(n)
		together, farthest := driven(t, what, n, list)
		lastFull := am(0, 1)
		for i, h := range list {
			if h.Keeps != h.At {
				t.Error(what, "keeps", h.Keeps, "at", h.At, i)
			}
			together = sum(together, ratOf(h.Keeps))
			lastFull = h.At
		}
		reach, ok := impl.BackReach(n)
		all, allOk := impl.DrivenByAll(n)
		if len(list) != n-1 || !ok || farthest.Cmp(ratOf(reach)) != 0 || !allOk || together.Cmp(ratOf(all)) != 0 {
			t.Error(what, len(list), "lead to", farthest, "not", reach, "all driving", together, "not", all)
		}
		got, ok := impl.LastFull(n)
		expect(t, fmt.Sprint("LastFull ", n), got, ok, lastFull, true)
		checkReturn(t, n, lastFull)
	}
}

// checkReturn drives on with a full tank, by as much as leaves the way home.
func checkReturn(t *testing.T, n int, lastFull amount) {
	t.Helper()
	reach, ok := impl.ReturnReach(n)
	on := less(ratOf(reach), ratOf(lastFull))
	if !ok || sum(on, ratOf(reach)).Cmp(rat(1, 1)) != 0 {
		t.Error("ReturnReach", n, reach, ok)
	}
}

// TestHelpersWhoRescue plays the way home: what each helper gives and keeps is just enough for all with it to the next one, or home.
func TestHelpersWhoRescue(t *testing.T) {
	for helpers := 1; helpers <= 20; helpers++ {
		what := fmt.Sprint("RescueStops ", helpers)
		list, _ := impl.RescueStops(helpers)
		reach, ok := impl.RescueReach(helpers)
		if !ok || len(list) != helpers || list[0].At != reach {
			t.Fatal(what, list, reach, ok)
		}
		together := ratOf(reach)
		for i, h := range list {
			next := new(big.Rat)
			if i+1 < helpers {
				next = ratOf(list[i+1].At)
			}
			part := less(ratOf(h.At), next)
			together = sum(together, product(rat(2, 1), ratOf(h.At)))
			tank := less(rat(1, 1), ratOf(h.At))
			gives := product(rat(i+1, 1), part)
			if ratOf(h.Keeps).Cmp(part) != 0 || ratOf(h.Gives).Cmp(gives) != 0 || sum(gives, part).Cmp(tank) != 0 {
				t.Error(what, "at", i, "gives and keeps", h)
			}
		}
		if last := list[helpers-1]; last.Keeps != last.At {
			t.Error(what, "the last one keeps", last)
		}
		if together.Cmp(rat(helpers, 1)) != 0 {
			t.Error(what, "all drive", together)
		}
	}
}

// TestRescueIsARelayTheOtherWayRound has one helper more: the last vehicle is the one that is met.
func TestRescueIsARelayTheOtherWayRound(t *testing.T) {
	for helpers := 1; helpers <= 19; helpers++ {
		rescue, _ := impl.RescueStops(helpers)
		back, _ := impl.BackStops(helpers + 1)
		slices.Reverse(back)
		for i := range rescue {
			if rescue[i].At != back[i].At || rescue[i].Gives != back[i].Gives {
				t.Error(helpers, "helpers at", i, rescue[i], back[i])
			}
		}
	}
}

func TestRingIsGoneOutAndHome(t *testing.T) {
	for n := 1; n <= 20; n++ {
		way, _ := impl.BackReach(n)
		if n > 1 {
			home, _ := impl.RescueReach(n - 1)
			way, _ = impl.AddAmounts(way, home)
		}
		got, ok := impl.RingReach(n)
		expect(t, fmt.Sprint("RingReach ", n), got, ok, way, true)
	}
}

// fewestByHand goes through all numbers of vehicles.
func fewestByHand(way amount, reach func(int) *big.Rat) (int, bool) {
	for n := 1; isAmountByHand(way) && n <= 20; n++ {
		if reach(n).Cmp(ratOf(way)) >= 0 {
			return n, true
		}
	}
	return 0, false
}

// relayWays are ways that numbers of vehicles just reach, a little longer and shorter ones, and pairs that are no amounts.
func relayWays() []amount {
	list := append(someAmounts(), hostileAmounts()...)
	for n := range 25 {
		for _, exact := range []*big.Rat{stayReachByHand(n), backReachByHand(n), returnReachByHand(n), ringReachByHand(n), rat(n, 1)} {
			for _, little := range []*big.Rat{new(big.Rat), rat(1, 300000000), rat(1, 15519504), rat(1, 40000003), rat(1, 21000000), rat(1, 1000)} {
				for _, near := range []*big.Rat{sum(exact, little), less(exact, little)} {
					if a, ok := amountOf(near); ok {
						list = append(list, a)
					}
				}
			}
		}
	}
	draw := rand.New(rand.NewPCG(5, 11))
	for range 3000 {
		list = append(list, amountNear(draw, 1+draw.IntN(200000000), 4))
	}
	return list
}

func TestFewestVehicles(t *testing.T) {
	for _, way := range relayWays() {
		for _, r := range relayReaches() {
			if r.fewest == nil {
				continue
			}
			want, wantOk := fewestByHand(way, r.byHand)
			got, ok := r.fewest(way)
			expect(t, fmt.Sprint("fewest for ", r.name, " ", way), got, ok, want, wantOk)
		}
	}
}

// TestFewestVehiclesUndo goes from a number of vehicles to its reach and back again.
func TestFewestVehiclesUndo(t *testing.T) {
	for _, r := range relayReaches() {
		for n := 1; n <= 20 && r.fewest != nil; n++ {
			way, _ := r.call(n)
			got, ok := r.fewest(way)
			expect(t, fmt.Sprint("fewest for ", r.name, " of ", n), got, ok, n, true)
		}
	}
}

// TestFewestVehiclesAtTheEdges tells results without the formulas that the other tests are made with.
func TestFewestVehiclesAtTheEdges(t *testing.T) {
	rows := []struct {
		name string
		call func(amount) (int, bool)
		way  amount
		want int
		ok   bool
	}{
		{"VehiclesToStay", impl.VehiclesToStay, am(0, 1), 1, true},
		{"VehiclesToStay", impl.VehiclesToStay, am(1, 1), 1, true},
		{"VehiclesToStay", impl.VehiclesToStay, am(1000000000, 999999999), 2, true},
		{"VehiclesToStay", impl.VehiclesToStay, am(3, 2), 2, true},
		{"VehiclesToStay", impl.VehiclesToStay, am(11, 6), 3, true},
		{"VehiclesToStay", impl.VehiclesToStay, am(2, 1), 4, true},
		{"VehiclesToStay", impl.VehiclesToStay, am(55835135, 15519504), 20, true},
		{"VehiclesToStay", impl.VehiclesToStay, am(166176, 46189), 0, false},
		{"VehiclesToStay", impl.VehiclesToStay, am(18, 5), 0, false},
		{"VehiclesToStay", impl.VehiclesToStay, am(1000000000, 1), 0, false},
		{"VehiclesToStay", impl.VehiclesToStay, am(2, 2), 0, false},
		{"VehiclesToStay", impl.VehiclesToStay, am(-1, 1), 0, false},
		{"VehiclesToStay", impl.VehiclesToStay, amount{}, 0, false},
		{"VehiclesToGo", impl.VehiclesToGo, am(0, 1), 1, true},
		{"VehiclesToGo", impl.VehiclesToGo, am(1, 1), 1, true},
		{"VehiclesToGo", impl.VehiclesToGo, am(1000000000, 999999999), 2, true},
		{"VehiclesToGo", impl.VehiclesToGo, am(3, 2), 3, true},
		{"VehiclesToGo", impl.VehiclesToGo, am(750000001, 500000000), 4, true},
		{"VehiclesToGo", impl.VehiclesToGo, am(40, 21), 20, true},
		{"VehiclesToGo", impl.VehiclesToGo, am(400000001, 210000000), 0, false},
		{"VehiclesToGo", impl.VehiclesToGo, am(21, 11), 0, false},
		{"VehiclesToGo", impl.VehiclesToGo, am(999999999, 500000000), 0, false},
		{"VehiclesToGo", impl.VehiclesToGo, am(2, 1), 0, false},
		{"VehiclesToGo", impl.VehiclesToGo, am(1000000000, 1), 0, false},
		{"VehiclesToGo", impl.VehiclesToGo, am(0, 2), 0, false},
		{"VehiclesToGo", impl.VehiclesToGo, am(1, 0), 0, false},
		{"VehiclesToGo", impl.VehiclesToGo, amount{}, 0, false},
		{"VehiclesToReturn", impl.VehiclesToReturn, am(0, 1), 1, true},
		{"VehiclesToReturn", impl.VehiclesToReturn, am(1, 2), 1, true},
		{"VehiclesToReturn", impl.VehiclesToReturn, am(500000001, 1000000000), 2, true},
		{"VehiclesToReturn", impl.VehiclesToReturn, am(2, 3), 2, true},
		{"VehiclesToReturn", impl.VehiclesToReturn, am(20, 21), 20, true},
		{"VehiclesToReturn", impl.VehiclesToReturn, am(200000001, 210000001), 0, false},
		{"VehiclesToReturn", impl.VehiclesToReturn, am(21, 22), 0, false},
		{"VehiclesToReturn", impl.VehiclesToReturn, am(999999999, 1000000000), 0, false},
		{"VehiclesToReturn", impl.VehiclesToReturn, am(1, 1), 0, false},
		{"VehiclesToReturn", impl.VehiclesToReturn, am(1000000000, 1), 0, false},
		{"VehiclesToReturn", impl.VehiclesToReturn, am(1, -2), 0, false},
		{"VehiclesToReturn", impl.VehiclesToReturn, amount{}, 0, false},
		{"VehiclesForRing", impl.VehiclesForRing, am(0, 1), 1, true},
		{"VehiclesForRing", impl.VehiclesForRing, am(1, 1), 1, true},
		{"VehiclesForRing", impl.VehiclesForRing, am(1000000000, 999999999), 2, true},
		{"VehiclesForRing", impl.VehiclesForRing, am(5, 3), 2, true},
		{"VehiclesForRing", impl.VehiclesForRing, am(2, 1), 3, true},
		{"VehiclesForRing", impl.VehiclesForRing, am(999999999, 499999999), 4, true},
		{"VehiclesForRing", impl.VehiclesForRing, am(59, 21), 20, true},
		{"VehiclesForRing", impl.VehiclesForRing, am(590000011, 210000000), 0, false},
		{"VehiclesForRing", impl.VehiclesForRing, am(31, 11), 0, false},
		{"VehiclesForRing", impl.VehiclesForRing, am(999999998, 333333333), 0, false},
		{"VehiclesForRing", impl.VehiclesForRing, am(3, 1), 0, false},
		{"VehiclesForRing", impl.VehiclesForRing, am(1000000000, 1), 0, false},
		{"VehiclesForRing", impl.VehiclesForRing, am(4, 2), 0, false},
		{"VehiclesForRing", impl.VehiclesForRing, am(1000000001, 1000000000), 0, false},
		{"VehiclesForRing", impl.VehiclesForRing, amount{}, 0, false},
	}
	for _, r := range rows {
		got, ok := r.call(r.way)
		expect(t, fmt.Sprint(r.name, " ", r.way), got, ok, r.want, r.ok)
	}
}

// TestHandoversAreNewEachTime changes one list, and what is behind it, and asks for it again.
func TestHandoversAreNewEachTime(t *testing.T) {
	for _, l := range relayLists() {
		for _, n := range []int{1, 2, 3, 20} {
			first, _ := l.call(n)
			other, _ := l.call(n)
			kept := slices.Clone(first)
			for i := range first {
				first[i] = handover{}
			}
			_ = append(first, handover{})
			expectList(t, fmt.Sprint(l.name, " ", n, " called before"), other, true, kept, true)
			again, ok := l.call(n)
			expectList(t, fmt.Sprint(l.name, " ", n, " called behind"), again, ok, kept, true)
		}
	}
}
