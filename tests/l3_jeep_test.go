package tests

import (
	"fmt"
	"math/big"
	"slices"
	"testing"

	"loop.example/g01258/impl"
)

// depotsByHand tells the depots out, for more = 1, or out and back, for more = 2, and what each trip but the last one leaves there.
func depotsByHand(tanks, more int) ([]depot, []amount) {
	var depots []depot
	var carries []amount
	at := new(big.Rat)
	for k := tanks - 1; k >= 1; k-- {
		at.Add(at, big.NewRat(1, int64(2*k+more)))
		carry := big.NewRat(int64(2*k+more-2), int64(2*k+more))
		left := big.NewRat(int64(k), 1)
		if more == 2 {
			left.Mul(left, carry)
		}
		place, _ := amountOf(at)
		brought, _ := amountOf(left)
		carried, _ := amountOf(carry)
		depots = append(depots, dep(place, brought))
		carries = append(carries, carried)
	}
	return depots, carries
}

func TestDepots(t *testing.T) {
	if impl.MaxTanks != 10 {
		t.Error("limit", impl.MaxTanks)
	}
	for _, tanks := range append(hostileInts(), 4, 5, 6, 8, 9) {
		valid := tanks >= 0 && tanks <= 10
		var outs, backs []depot
		var carries []amount
		if valid {
			outs, carries = depotsByHand(tanks, 1)
			backs, _ = depotsByHand(tanks, 2)
		}
		got, ok := impl.DepotsOut(tanks)
		expectList(t, fmt.Sprint("DepotsOut ", tanks), got, ok, outs, valid)
		got, ok = impl.DepotsBack(tanks)
		expectList(t, fmt.Sprint("DepotsBack ", tanks), got, ok, backs, valid)
		carried, ok := impl.CarriesOut(tanks)
		expectList(t, fmt.Sprint("CarriesOut ", tanks), carried, ok, carries, valid)
	}
}

func TestKnownDepots(t *testing.T) {
	got, ok := impl.DepotsOut(2)
	expectList(t, "DepotsOut 2", got, ok, []depot{dep(am(1, 3), am(1, 1))}, true)
	got, ok = impl.DepotsBack(2)
	expectList(t, "DepotsBack 2", got, ok, []depot{dep(am(1, 4), am(1, 2))}, true)
	got, ok = impl.DepotsOut(3)
	expectList(t, "DepotsOut 3", got, ok, []depot{dep(am(1, 5), am(2, 1)), dep(am(8, 15), am(1, 1))}, true)
	got, ok = impl.DepotsBack(3)
	expectList(t, "DepotsBack 3", got, ok, []depot{dep(am(1, 6), am(4, 3)), dep(am(5, 12), am(1, 2))}, true)
	carries, ok := impl.CarriesOut(3)
	expectList(t, "CarriesOut 3", carries, ok, []amount{am(3, 5), am(1, 3)}, true)
}

// TestPlansFillTheDepots plays the plans of chapter 2: each depot gets what it has to, and lies where it has to.
func TestPlansFillTheDepots(t *testing.T) {
	for n := 1; n <= 4; n++ {
		out, _ := impl.PlanOut(n)
		home, _ := impl.PlanBack(n)
		outs, _ := impl.DepotsOut(n)
		backs, _ := impl.DepotsBack(n)
		got := leftByPlan(t, n, out)
		for i := range got {
			// The last trip to a depot out brings what is in its tank then.
			way := new(big.Rat).Sub(ratOf(outs[i].At), placeBefore(outs, i))
			sum := new(big.Rat).Add(ratOf(got[i].Fuel), new(big.Rat).Sub(big.NewRat(1, 1), way))
			got[i].Fuel, _ = amountOf(sum)
		}
		expectList(t, fmt.Sprint("depots of PlanOut ", n), got, true, outs, true)
		expectList(t, fmt.Sprint("depots of PlanBack ", n), leftByPlan(t, n, home), true, backs, true)
	}
}

func placeBefore(depots []depot, i int) *big.Rat {
	if i == 0 {
		return new(big.Rat)
	}
	return ratOf(depots[i-1].At)
}

// leftByPlan tells all that the steps leave, at each place together.
func leftByPlan(t *testing.T, tanks int, steps []step) []depot {
	t.Helper()
	var left []depot
	s, _ := impl.FirstState(am(tanks, 1))
	for _, st := range steps {
		if st.Kind == leave {
			i := slices.IndexFunc(left, func(d depot) bool { return d.At == s.Place })
			if i < 0 {
				i = len(left)
				left = append(left, dep(s.Place, am(0, 1)))
			}
			left[i].Fuel, _ = impl.AddAmounts(left[i].Fuel, st.Value)
		}
		next, ok := impl.PlayStep(s, st)
		if !ok {
			t.Fatal("the plan of", tanks, "cannot be made at", s, st)
		}
		s = next
	}
	return left
}

func TestDepotsAreNewEachTime(t *testing.T) {
	for _, call := range []func(int) ([]depot, bool){impl.DepotsOut, impl.DepotsBack} {
		first, _ := call(4)
		kept := slices.Clone(first)
		first[0] = depot{}
		second, ok := call(4)
		expectList(t, "after a change of the first result", second, ok, kept, true)
	}
	first, _ := impl.CarriesOut(4)
	first[0] = amount{}
	second, ok := impl.CarriesOut(4)
	expectList(t, "CarriesOut again", second, ok, []amount{am(5, 7), am(3, 5), am(1, 3)}, true)
}
