package tests

import (
	"fmt"
	"math/big"
	"math/rand/v2"
	"slices"
	"testing"

	"loop.example/g01258/impl"
)

// depotsByHand tells the depots out, for more = 1, or out and back, for more = 2, and what each trip but the last one leaves there.
func depotsByHand(tanks, more int) ([]depot, []amount) {
	var depots []depot
	var carries []amount
	at := new(big.Rat)
	for k := tanks - 1; k >= 1; k-- {
		at.Add(at, big.NewRat(1, int64(2*k+more)))
		carry := big.NewRat(int64(2*k+more-2), int64(2*k+more))
		left := big.NewRat(int64(k), 1)
		if more == 2 {
			left.Mul(left, carry)
		}
		place, _ := amountOf(at)
		brought, _ := amountOf(left)
		carried, _ := amountOf(carry)
		depots = append(depots, dep(place, brought))
		carries = append(carries, carried)
	}
	return depots, carries
}

func TestDepots(t *testing.T) {
	if impl.MaxTanks != 10 {
		t.Error("limit", impl.MaxTanks)
	}
	for _, tanks := range append(hostileInts(), 4, 5, 6, 8, 9) {
		valid := tanks >= 0 && tanks <= 10
		var outs, backs []depot
		var carries []amount
		if valid {
			outs, carries = depotsByHand(tanks, 1)
			backs, _ = depotsByHand(tanks, 2)
		}
		got, ok := impl.DepotsOut(tanks)
		expectList(t, fmt.Sprint("DepotsOut ", tanks), got, ok, outs, valid)
		got, ok = impl.DepotsBack(tanks)
		expectList(t, fmt.Sprint("DepotsBack ", tanks), got, ok, backs, valid)
		carried, ok := impl.CarriesOut(tanks)
		expectList(t, fmt.Sprint("CarriesOut ", tanks), carried, ok, carries, valid)
	}
}

func TestKnownDepots(t *testing.T) {
	got, ok := impl.DepotsOut(2)
	expectList(t, "DepotsOut 2", got, ok, []depot{dep(am(1, 3), am(1, 1))}, true)
	got, ok = impl.DepotsBack(2)
	expectList(t, "DepotsBack 2", got, ok, []depot{dep(am(1, 4), am(1, 2))}, true)
	got, ok = impl.DepotsOut(3)
	expectList(t, "DepotsOut 3", got, ok, []depot{dep(am(1, 5), am(2, 1)), dep(am(8, 15), am(1, 1))}, true)
	got, ok = impl.DepotsBack(3)
	expectList(t, "DepotsBack 3", got, ok, []depot{dep(am(1, 6), am(4, 3)), dep(am(5, 12), am(1, 2))}, true)
	carries, ok := impl.CarriesOut(3)
	expectList(t, "CarriesOut 3", carries, ok, []amount{am(3, 5), am(1, 3)}, true)
}

// TestPlansFillTheDepots plays the plans of chapter 2: each depot gets what it has to, and lies where it has to.
func TestPlansFillTheDepots(t *testing.T) {
	for n := 1; n <= 4; n++ {
		out, _ := impl.PlanOut(n)
		home, _ := impl.PlanBack(n)
		outs, _ := impl.DepotsOut(n)
		backs, _ := impl.DepotsBack(n)
		got := leftByPlan(t, n, out)
		for i := range got {
			// The last trip to a depot out brings what is in its tank then.
			way := new(big.Rat).Sub(ratOf(outs[i].At), placeBefore(outs, i))
			sum := new(big.Rat).Add(ratOf(got[i].Fuel), new(big.Rat).Sub(big.NewRat(1, 1), way))
			got[i].Fuel, _ = amountOf(sum)
		}
		expectList(t, fmt.Sprint("depots of PlanOut ", n), got, true, outs, true)
		expectList(t, fmt.Sprint("depots of PlanBack ", n), leftByPlan(t, n, home), true, backs, true)
	}
}

func placeBefore(depots []depot, i int) *big.Rat {
	if i == 0 {
		return new(big.Rat)
	}
	return ratOf(depots[i-1].At)
}

// leftByPlan tells all that the steps leave, at each place together.
func leftByPlan(t *testing.T, tanks int, steps []step) []depot {
	t.Helper()
	var left []depot
	s, _ := impl.FirstState(am(tanks, 1))
	for _, st := range steps {
		if st.Kind == leave {
			i := slices.IndexFunc(left, func(d depot) bool { return d.At == s.Place })
			if i < 0 {
				i = len(left)
				left = append(left, dep(s.Place, am(0, 1)))
			}
			left[i].Fuel, _ = impl.AddAmounts(left[i].Fuel, st.Value)
		}
		next, ok := impl.PlayStep(s, st)
		if !ok {
			t.Fatal("the plan of", tanks, "cannot be made at", s, st)
		}
		s = next
	}
	return left
}

func TestDepotsAreNewEachTime(t *testing.T) {
	for _, call := range []func(int) ([]depot, bool){impl.DepotsOut, impl.DepotsBack} {
		first, _ := call(4)
		kept := slices.Clone(first)
		first[0] = depot{}
		second, ok := call(4)
		expectList(t, "after a change of the first result", second, ok, kept, true)
	}
	first, _ := impl.CarriesOut(4)
	first[0] = amount{}
	second, ok := impl.CarriesOut(4)
	expectList(t, "CarriesOut again", second, ok, []amount{am(5, 7), am(3, 5), am(1, 3)}, true)
	trips, _ := impl.TripsOut(4)
	trips[0] = 0
	again, ok := impl.TripsOut(4)
	expectList(t, "TripsOut again", again, ok, []int{4, 3, 2}, true)
}

// The numbers of the two journeys: a jeep drives 2 k + out or 2 k + home times over each bit of the way with k tanks behind the one in use.
const (
	out  = 1
	home = 2
)

// farthestByHand burns fuel tank by tank, from the end of the way backwards.
func farthestByHand(fuel *big.Rat, journey int) *big.Rat {
	left, way := new(big.Rat).Set(fuel), new(big.Rat)
	for k := 0; left.Sign() > 0; k++ {
		burnt := lesser(left, big.NewRat(1, 1))
		way.Add(way, new(big.Rat).Mul(burnt, big.NewRat(1, int64(2*k+journey))))
		left.Sub(left, burnt)
	}
	return way
}

// leastByHand goes the way backwards from its end, tank by tank. It fails if more than 10 tanks are needed.
func leastByHand(way *big.Rat, journey int) (*big.Rat, bool) {
	left, fuel := new(big.Rat).Set(way), new(big.Rat)
	for k := 0; k < 10 && left.Sign() > 0; k++ {
		part := lesser(left, big.NewRat(1, int64(2*k+journey)))
		fuel.Add(fuel, new(big.Rat).Mul(part, big.NewRat(int64(2*k+journey), 1)))
		left.Sub(left, part)
	}
	return fuel, left.Sign() == 0
}

func lesser(a, b *big.Rat) *big.Rat {
	if a.Cmp(b) > 0 {
		a = b
	}
	return new(big.Rat).Set(a)
}

func isFuelByHand(a amount, most int) bool {
	return isAmountByHand(a) && ratOf(a).Cmp(big.NewRat(int64(most), 1)) <= 0
}

func farthestAmount(fuel amount, journey int) (amount, bool) {
	if !isFuelByHand(fuel, 10) {
		return amount{}, false
	}
	return amountOf(farthestByHand(ratOf(fuel), journey))
}

func leastAmount(way amount, journey int) (amount, bool) {
	if !isAmountByHand(way) {
		return amount{}, false
	}
	fuel, ok := leastByHand(ratOf(way), journey)
	if !ok {
		return amount{}, false
	}
	return amountOf(fuel)
}

func gainAmount(fuel amount, journey int) (amount, bool) {
	if !isFuelByHand(fuel, 9) {
		return amount{}, false
	}
	near := farthestByHand(ratOf(fuel), journey)
	far := farthestByHand(new(big.Rat).Add(ratOf(fuel), big.NewRat(1, 1)), journey)
	_, nearOk := amountOf(near)
	_, farOk := amountOf(far)
	if !nearOk || !farOk {
		return amount{}, false
	}
	return amountOf(far.Sub(far, near))
}

// lastPartAmount tells how much farther fuel leads than its whole tanks do.
func lastPartAmount(fuel amount) (amount, bool) {
	if !isFuelByHand(fuel, 10) || fuel.Num < fuel.Den {
		return amount{}, false
	}
	tanks := farthestByHand(big.NewRat(int64(fuel.Num/fuel.Den), 1), out)
	way := farthestByHand(ratOf(fuel), out)
	return amountOf(way.Sub(way, tanks))
}

type journeyCalls struct {
	name                  string
	number                int
	farthest, least, gain func(amount) (amount, bool)
	enough                func(amount, amount) (bool, bool)
}

// journeys are the functions of chapter 3 that there are for both journeys.
func journeys() []journeyCalls {
	return []journeyCalls{
		{"out", out, impl.FarthestOut, impl.FuelOut, impl.GainOut, impl.CanCross},
		{"back", home, impl.FarthestBack, impl.FuelBack, impl.GainBack, impl.CanReturn},
	}
}

// jeepAmounts are amounts for fuel and for ways, most of them at most 12 and many of them at an edge, and pairs that are none.
func jeepAmounts() []amount {
	list := append(someAmounts(), hostileAmounts()...)
	for den := 1; den <= 24; den++ {
		for num := 0; num <= 12*den; num++ {
			list = append(list, am(num, den))
		}
	}
	list = append(list, nearJeepLimits()...)
	draw := rand.New(rand.NewPCG(3, 11))
	for range 4000 {
		den := 1 + draw.IntN(1000000000)
		if draw.IntN(2) == 0 {
			den = 1 + draw.IntN(100000)
		}
		if a, ok := amountOf(big.NewRat(int64(draw.IntN(11*den)), int64(den))); ok {
			list = append(list, a)
		}
	}
	return list
}

// nearJeepLimits are whole tanks and the ways that they lead to, exactly, and a little more and less.
func nearJeepLimits() []amount {
	var list []amount
	for n := range 12 {
		for _, exact := range []*big.Rat{big.NewRat(int64(n), 1), farthestByHand(big.NewRat(int64(n), 1), out), farthestByHand(big.NewRat(int64(n), 1), home)} {
			for _, little := range []*big.Rat{new(big.Rat), big.NewRat(1, 68), big.NewRat(1, 1000000), big.NewRat(1, 50000000), big.NewRat(1, 90000000)} {
				for _, near := range []*big.Rat{new(big.Rat).Add(exact, little), new(big.Rat).Sub(exact, little)} {
					if a, ok := amountOf(near); ok {
						list = append(list, a)
					}
				}
			}
		}
	}
	return list
}

func TestJeepExamples(t *testing.T) {
	rows := []struct {
		name string
		call func(amount) (amount, bool)
		of   amount
		want amount
	}{
		{"FarthestOut", impl.FarthestOut, am(2, 1), am(4, 3)}, {"FarthestBack", impl.FarthestBack, am(2, 1), am(3, 4)},
		{"FuelOut", impl.FuelOut, am(4, 3), am(2, 1)}, {"FuelOut", impl.FuelOut, am(5, 4), am(7, 4)},
		{"GainOut", impl.GainOut, am(2, 1), am(1, 5)}, {"GainOut", impl.GainOut, am(3, 2), am(4, 15)},
		{"FuelBack", impl.FuelBack, am(3, 4), am(2, 1)}, {"FuelBack", impl.FuelBack, am(5, 8), am(3, 2)},
		{"FarthestBack", impl.FarthestBack, am(3, 2), am(5, 8)}, {"FarthestOut", impl.FarthestOut, am(7, 4), am(5, 4)},
		{"GainBack", impl.GainBack, am(2, 1), am(1, 6)}, {"GainBack", impl.GainBack, am(3, 2), am(5, 24)},
		{"LastPartOut", impl.LastPartOut, am(7, 4), am(1, 4)}, {"LastPartOut", impl.LastPartOut, am(5, 2), am(1, 10)},
	}
	for _, r := range rows {
		got, ok := r.call(r.of)
		expect(t, fmt.Sprint(r.name, " ", r.of), got, ok, r.want, true)
	}
}

// TestFunctionsOfOneAmount holds chapter 3 against numbers of any size, for fuel, for ways, and for pairs that are no amounts.
func TestFunctionsOfOneAmount(t *testing.T) {
	for _, a := range jeepAmounts() {
		for _, j := range journeys() {
			want, wantOk := farthestAmount(a, j.number)
			got, ok := j.farthest(a)
			expect(t, fmt.Sprint("farthest ", j.name, " ", a), got, ok, want, wantOk)
			want, wantOk = leastAmount(a, j.number)
			got, ok = j.least(a)
			expect(t, fmt.Sprint("least fuel ", j.name, " ", a), got, ok, want, wantOk)
			want, wantOk = gainAmount(a, j.number)
			got, ok = j.gain(a)
			expect(t, fmt.Sprint("gain ", j.name, " ", a), got, ok, want, wantOk)
		}
		want, wantOk := lastPartAmount(a)
		got, ok := impl.LastPartOut(a)
		expect(t, fmt.Sprint("LastPartOut ", a), got, ok, want, wantOk)
	}
}

// TestJeepEdges tells results as the document does, without the model that the other tests are made with.
func TestJeepEdges(t *testing.T) {
	none := amount{}
	rows := []struct {
		name string
		call func(amount) (amount, bool)
		of   amount
		want amount
		ok   bool
	}{
		{"FarthestOut", impl.FarthestOut, am(0, 1), am(0, 1), true},
		{"FarthestOut", impl.FarthestOut, am(1, 2), am(1, 2), true},
		{"FarthestOut", impl.FarthestOut, am(1, 1000000000), am(1, 1000000000), true},
		{"FarthestOut", impl.FarthestOut, am(1, 1), am(1, 1), true},
		{"FarthestOut", impl.FarthestOut, am(3, 1), am(23, 15), true},
		{"FarthestOut", impl.FarthestOut, am(10, 1), am(31037876, 14549535), true},
		{"FarthestOut", impl.FarthestOut, am(11, 1), none, false},
		{"FarthestOut", impl.FarthestOut, am(1000000000, 99999999), none, false},
		{"FarthestOut", impl.FarthestOut, am(1000000000, 999999999), none, false},
		{"FarthestOut", impl.FarthestOut, am(6, 4), none, false},
		{"FarthestOut", impl.FarthestOut, am(-1, 2), none, false},
		{"FarthestBack", impl.FarthestBack, am(0, 1), am(0, 1), true},
		{"FarthestBack", impl.FarthestBack, am(1, 2), am(1, 4), true},
		{"FarthestBack", impl.FarthestBack, am(1, 500000000), am(1, 1000000000), true},
		{"FarthestBack", impl.FarthestBack, am(1, 500000001), none, false},
		{"FarthestBack", impl.FarthestBack, am(1, 1), am(1, 2), true},
		{"FarthestBack", impl.FarthestBack, am(4, 1), am(25, 24), true},
		{"FarthestBack", impl.FarthestBack, am(10, 1), am(7381, 5040), true},
		{"FarthestBack", impl.FarthestBack, am(11, 1), none, false},
		{"FarthestBack", impl.FarthestBack, am(1000000000, 99999999), none, false},
		{"FarthestBack", impl.FarthestBack, am(2, 0), none, false},
		{"FuelOut", impl.FuelOut, am(0, 1), am(0, 1), true},
		{"FuelOut", impl.FuelOut, am(1, 1), am(1, 1), true},
		{"FuelOut", impl.FuelOut, am(31037876, 14549535), am(10, 1), true},
		{"FuelOut", impl.FuelOut, am(853329554, 400012817), none, false},
		{"FuelOut", impl.FuelOut, am(15, 7), none, false},
		{"FuelOut", impl.FuelOut, am(1000000000, 1), none, false},
		{"FuelOut", impl.FuelOut, am(2, 2), none, false},
		{"FuelBack", impl.FuelBack, am(0, 1), am(0, 1), true},
		{"FuelBack", impl.FuelBack, am(1, 2), am(1, 1), true},
		{"FuelBack", impl.FuelBack, am(7381, 5040), am(10, 1), true},
		{"FuelBack", impl.FuelBack, am(585817579, 400016339), none, false},
		{"FuelBack", impl.FuelBack, am(3, 2), none, false},
		{"FuelBack", impl.FuelBack, am(1000000000, 1), none, false},
		{"FuelBack", impl.FuelBack, am(1, -1), none, false},
		{"LastPartOut", impl.LastPartOut, am(0, 1), none, false},
		{"LastPartOut", impl.LastPartOut, am(999999999, 1000000000), none, false},
		{"LastPartOut", impl.LastPartOut, am(1, 1), am(0, 1), true},
		{"LastPartOut", impl.LastPartOut, am(3, 2), am(1, 6), true},
		{"LastPartOut", impl.LastPartOut, am(19, 2), am(1, 38), true},
		{"LastPartOut", impl.LastPartOut, am(10, 1), am(0, 1), true},
		{"LastPartOut", impl.LastPartOut, am(1000000000, 99999999), none, false},
		{"LastPartOut", impl.LastPartOut, am(1000000000, 999999999), none, false},
		{"GainOut", impl.GainOut, am(0, 1), am(1, 1), true},
		{"GainOut", impl.GainOut, am(9, 1), am(1, 19), true},
		{"GainOut", impl.GainOut, am(19, 2), none, false},
		{"GainOut", impl.GainOut, am(900000001, 100000000), none, false},
		{"GainOut", impl.GainOut, am(10, 1), none, false},
		{"GainBack", impl.GainBack, am(0, 1), am(1, 2), true},
		{"GainBack", impl.GainBack, am(9, 1), am(1, 20), true},
		{"GainBack", impl.GainBack, am(19, 2), none, false},
		{"GainBack", impl.GainBack, am(900000001, 100000000), none, false},
		{"GainBack", impl.GainBack, am(10, 1), none, false},
	}
	for _, r := range rows {
		got, ok := r.call(r.of)
		expect(t, fmt.Sprint(r.name, " ", r.of), got, ok, r.want, r.ok)
	}
}

// TestNoAmountInBetween has parts of ways, fuel and a tank together, or ways behind whole tanks that are no amounts: only results have to be some.
func TestNoAmountInBetween(t *testing.T) {
	rows := []struct {
		fuel, way         amount
		farthest, fuelFor func(amount) (amount, bool)
	}{
		{am(600000001, 300000000), am(666666667, 500000000), impl.FarthestOut, impl.FuelOut},
		{am(900000003, 900000001), am(450000001, 900000001), impl.FarthestBack, impl.FuelBack},
	}
	for _, r := range rows {
		got, ok := r.farthest(r.fuel)
		expect(t, fmt.Sprint("farthest with ", r.fuel), got, ok, r.way, true)
		got, ok = r.fuelFor(r.way)
		expect(t, fmt.Sprint("least fuel for ", r.way), got, ok, r.fuel, true)
	}
	for _, fuel := range []amount{am(470734426, 232931865), am(659620687, 203860275), am(456563453, 199462914), am(492624517, 117136884)} {
		for _, j := range journeys() {
			want, wantOk := farthestAmount(fuel, j.number)
			got, ok := j.farthest(fuel)
			expect(t, fmt.Sprint("farthest ", j.name, " ", fuel), got, ok, want, wantOk)
		}
	}
	got, ok := impl.GainOut(am(600000000, 700000001))
	expect(t, "GainOut where fuel and a tank are no amount", got, ok, am(300000001, 700000001), true)
	want, _ := gainAmount(am(780993522, 878433155), home)
	got, ok = impl.GainBack(am(780993522, 878433155))
	expect(t, "GainBack where fuel and a tank are no amount", got, ok, want, true)
}

// TestGainsThatAreNone has ways or gains that are no amounts, one of both ways, or none of them.
func TestGainsThatAreNone(t *testing.T) {
	rows := []struct {
		name                string
		journey             int
		call                func(amount) (amount, bool)
		fuel                amount
		nearOk, farOk, gain bool
	}{
		{"GainOut", out, impl.GainOut, am(600000014, 600000009), false, true, false},
		{"GainOut", out, impl.GainOut, am(62740519, 16511410), true, false, true},
		{"GainOut", out, impl.GainOut, am(1, 999999937), true, false, false},
		{"GainOut", out, impl.GainOut, am(139871134, 61806585), true, true, false},
		{"GainOut", out, impl.GainOut, am(29133623, 6503255), true, false, true},
		{"GainBack", home, impl.GainBack, am(471642572, 157552815), false, true, false},
		{"GainBack", home, impl.GainBack, am(624624013, 517864743), true, false, false},
		{"GainBack", home, impl.GainBack, am(1, 999999937), false, false, false},
		{"GainBack", home, impl.GainBack, am(297446149, 53755620), true, true, false},
		{"GainBack", home, impl.GainBack, am(76839586, 13910777), false, false, true},
	}
	for _, r := range rows {
		near := farthestByHand(ratOf(r.fuel), r.journey)
		far := farthestByHand(new(big.Rat).Add(ratOf(r.fuel), big.NewRat(1, 1)), r.journey)
		_, nearOk := amountOf(near)
		_, farOk := amountOf(far)
		_, gainOk := amountOf(far.Sub(far, near))
		if nearOk != r.nearOk || farOk != r.farOk || gainOk != r.gain {
			t.Errorf("%s %v does not show what it has to: %v, %v, %v", r.name, r.fuel, nearOk, farOk, gainOk)
		}
		got, ok := r.call(r.fuel)
		expect(t, fmt.Sprint(r.name, " ", r.fuel), got, ok, amount{}, false)
	}
}

// TestFarthestAndLeastUndo is the promise 3.
func TestFarthestAndLeastUndo(t *testing.T) {
	undone := 0
	for _, a := range jeepAmounts() {
		for _, j := range journeys() {
			if way, ok := j.farthest(a); ok {
				undone++
				fuel, ok := j.least(way)
				expect(t, fmt.Sprint("least fuel ", j.name, " for the way of ", a), fuel, ok, a, true)
			}
			if fuel, ok := j.least(a); ok {
				undone++
				way, ok := j.farthest(fuel)
				expect(t, fmt.Sprint("farthest ", j.name, " with the fuel for ", a), way, ok, a, true)
			}
		}
	}
	if undone < 8000 {
		t.Error("too few are undone", undone)
	}
}

func TestWholeTanks(t *testing.T) {
	for n := 0; n <= 10; n++ {
		sum, _ := impl.OddHarmonicSum(n)
		got, ok := impl.FarthestOut(am(n, 1))
		expect(t, fmt.Sprint("FarthestOut ", n), got, ok, sum, true)
		sum, _ = impl.HarmonicSum(n)
		half, _ := impl.TimesAmount(sum, am(1, 2))
		got, ok = impl.FarthestBack(am(n, 1))
		expect(t, fmt.Sprint("FarthestBack ", n), got, ok, half, true)
	}
}

// TestEnough asks for ways of all lengths, exactly as long as fuel leads among them.
func TestEnough(t *testing.T) {
	list := append(nearJeepLimits(), am(0, 1), am(1, 1000000000), am(1000000000, 1), am(1000000000, 999999999), am(5, 4), am(7, 4), am(3, 2), am(19, 2), am(1, 999999937))
	hostile := hostileAmounts()
	for i, fuel := range list {
		for _, way := range list {
			checkEnough(t, fuel, way)
		}
		checkEnough(t, fuel, hostile[(i*7+3)%len(hostile)])
	}
	for i, a := range hostile {
		checkEnough(t, a, am(1, 2))
		checkEnough(t, am(3, 2), a)
		checkEnough(t, a, hostile[(i*7+3)%len(hostile)])
	}
	for _, fuel := range jeepAmounts() {
		for _, j := range journeys() {
			if way, ok := farthestAmount(fuel, j.number); ok {
				checkEnough(t, fuel, way)
			}
		}
	}
}

func checkEnough(t *testing.T, fuel, way amount) {
	t.Helper()
	for _, j := range journeys() {
		farthest, wantOk := farthestAmount(fuel, j.number)
		wantOk = wantOk && isAmountByHand(way)
		want := wantOk && ratOf(farthest).Cmp(ratOf(way)) >= 0
		got, ok := j.enough(fuel, way)
		expect(t, fmt.Sprint("enough ", j.name, " ", fuel, way), got, ok, want, wantOk)
	}
}

func TestEnoughAtTheEdges(t *testing.T) {
	rows := []struct {
		name      string
		call      func(amount, amount) (bool, bool)
		fuel, way amount
		want, ok  bool
	}{
		{"CanCross", impl.CanCross, am(2, 1), am(4, 3), true, true},
		{"CanCross", impl.CanCross, am(2, 1), am(400000001, 300000000), false, true},
		{"CanCross", impl.CanCross, am(2, 1), am(399999997, 300000000), true, true},
		{"CanCross", impl.CanCross, am(0, 1), am(0, 1), true, true},
		{"CanCross", impl.CanCross, am(0, 1), am(1, 1000000000), false, true},
		{"CanCross", impl.CanCross, am(10, 1), am(31037876, 14549535), true, true},
		{"CanCross", impl.CanCross, am(10, 1), am(853329554, 400012817), false, true},
		{"CanCross", impl.CanCross, am(10, 1), am(1000000000, 1), false, true},
		{"CanCross", impl.CanCross, am(1000000000, 999999999), am(1, 2), false, false},
		{"CanCross", impl.CanCross, am(1000000000, 99999999), am(1, 2), false, false},
		{"CanCross", impl.CanCross, am(11, 1), am(1, 2), false, false},
		{"CanCross", impl.CanCross, am(2, 1), am(2, 4), false, false},
		{"CanCross", impl.CanCross, am(2, 1), amount{}, false, false},
		{"CanReturn", impl.CanReturn, am(2, 1), am(3, 4), true, true},
		{"CanReturn", impl.CanReturn, am(2, 1), am(300000001, 400000000), false, true},
		{"CanReturn", impl.CanReturn, am(2, 1), am(299999999, 400000000), true, true},
		{"CanReturn", impl.CanReturn, am(0, 1), am(0, 1), true, true},
		{"CanReturn", impl.CanReturn, am(0, 1), am(1, 1000000000), false, true},
		{"CanReturn", impl.CanReturn, am(10, 1), am(7381, 5040), true, true},
		{"CanReturn", impl.CanReturn, am(10, 1), am(585817579, 400016339), false, true},
		{"CanReturn", impl.CanReturn, am(10, 1), am(1000000000, 1), false, true},
		{"CanReturn", impl.CanReturn, am(1, 500000001), am(0, 1), false, false},
		{"CanReturn", impl.CanReturn, am(1000000000, 99999999), am(1, 2), false, false},
		{"CanReturn", impl.CanReturn, am(11, 1), am(1, 2), false, false},
		{"CanReturn", impl.CanReturn, am(2, 1), am(2, 4), false, false},
		{"CanReturn", impl.CanReturn, am(2, 1), amount{}, false, false},
	}
	for _, r := range rows {
		got, ok := r.call(r.fuel, r.way)
		expect(t, fmt.Sprint(r.name, " ", r.fuel, r.way), got, ok, r.want, r.ok)
	}
}

func TestTripsOut(t *testing.T) {
	for _, tanks := range append(hostileInts(), 4, 5, 6, 8, 9) {
		valid := tanks >= 0 && tanks <= 10
		var want []int
		for k := tanks; valid && k >= 2; k-- {
			want = append(want, k)
		}
		got, ok := impl.TripsOut(tanks)
		expectList(t, fmt.Sprint("TripsOut ", tanks), got, ok, want, valid)
	}
	got, ok := impl.TripsOut(10)
	expectList(t, "TripsOut 10", got, ok, []int{10, 9, 8, 7, 6, 5, 4, 3, 2}, true)
}

// TestTripsBringAllFuel holds trips, carries and depots against each other: the last trip brings a tank less the way.
func TestTripsBringAllFuel(t *testing.T) {
	for tanks := 0; tanks <= 10; tanks++ {
		depots, _ := impl.DepotsOut(tanks)
		trips, _ := impl.TripsOut(tanks)
		carries, _ := impl.CarriesOut(tanks)
		if len(trips) != len(depots) || len(carries) != len(depots) {
			t.Fatal("lists for", tanks, depots, trips, carries)
		}
		for i, d := range depots {
			way := new(big.Rat).Sub(ratOf(d.At), placeBefore(depots, i))
			brought := new(big.Rat).Mul(ratOf(carries[i]), big.NewRat(int64(trips[i]-1), 1))
			brought.Add(brought, way.Sub(big.NewRat(1, 1), way))
			if brought.Cmp(ratOf(d.Fuel)) != 0 {
				t.Error("with", tanks, "tanks the depot", i, "gets", brought, "and has", d.Fuel)
			}
		}
	}
}

// TestDrivenOut adds up all drives: over each part as often as its depot is reached, back one time less, and the last tank.
func TestDrivenOut(t *testing.T) {
	for _, tanks := range append(hostileInts(), 4, 5, 6, 8, 9) {
		want, valid := amount{}, tanks >= 0 && tanks <= 10
		if valid {
			sum := big.NewRat(int64(min(tanks, 1)), 1)
			depots, _ := depotsByHand(tanks, out)
			for i, d := range depots {
				part := new(big.Rat).Sub(ratOf(d.At), placeBefore(depots, i))
				trips := int64(tanks - i)
				sum.Add(sum, part.Mul(part, big.NewRat(trips+trips-1, 1)))
			}
			want, _ = amountOf(sum)
		}
		got, ok := impl.DrivenOut(tanks)
		expect(t, fmt.Sprint("DrivenOut ", tanks), got, ok, want, valid)
	}
	for _, n := range []int{0, 1, 10} {
		got, ok := impl.DrivenOut(n)
		expect(t, fmt.Sprint("DrivenOut ", n), got, ok, am(n, 1), true)
	}
}
