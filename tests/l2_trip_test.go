package tests

import (
	"fmt"
	"math"
	"math/big"
	"math/rand/v2"
	"slices"
	"strings"
	"testing"

	"loop.example/g01258/impl"
)

type (
	step  = impl.Step
	state = impl.State
	depot = impl.Depot
)

const (
	forth = 0
	back  = 1
	leave = 2
	take  = 3
)

func TestTripLimitConstants(t *testing.T) {
	if impl.MaxDepots != 20 || impl.MaxSteps != 120 {
		t.Error("limits", impl.MaxDepots, impl.MaxSteps)
	}
}

// stepsOf reads steps that are told by their texts, without the program.
func stepsOf(texts string) []step {
	var steps []step
	for _, text := range strings.Fields(texts) {
		var units, num int
		den := 1
		if strings.Contains(text, "+") {
			fmt.Sscanf(text[1:], "%d+%d/%d", &units, &num, &den)
		} else {
			fmt.Sscanf(text[1:], "%d", &units)
		}
		steps = append(steps, step{Kind: strings.Index("fblt", text[:1]), Value: am(units*den+num, den)})
	}
	return steps
}

func stp(kind int, value amount) step {
	return step{Kind: kind, Value: value}
}

func dep(at, fuel amount) depot {
	return depot{At: at, Fuel: fuel}
}

func start(supply amount) state {
	return state{Place: am(0, 1), Tank: am(0, 1), Supply: supply}
}

// wideStart has a full tank at a place with as many depots behind it as told, at 1, 2, 3 and so on.
func wideStart(depots int) state {
	s := state{Place: am(100, 1), Tank: am(1, 1), Supply: am(5, 1)}
	for k := range depots {
		s.Depots = append(s.Depots, depot{At: am(k+1, 1), Fuel: am(1, k+2)})
	}
	return s
}

func sameState(a, b state) bool {
	return a.Place == b.Place && a.Tank == b.Tank && a.Supply == b.Supply && slices.Equal(a.Depots, b.Depots)
}

func expectState(t *testing.T, what string, got state, ok bool, want state, wantOk bool) {
	t.Helper()
	if !sameState(got, want) || ok != wantOk {
		t.Errorf("%s: got %v, %v; want %v, %v", what, got, ok, want, wantOk)
	}
}

func isStepByHand(s step) bool {
	return s.Kind >= 0 && s.Kind <= 3 && isAmountByHand(s.Value) && s.Value.Num > 0
}

func isStateByHand(s state) bool {
	if !isAmountByHand(s.Place) || !isAmountByHand(s.Tank) || !isAmountByHand(s.Supply) || s.Tank.Num > s.Tank.Den || len(s.Depots) > 20 {
		return false
	}
	last := new(big.Rat)
	for _, d := range s.Depots {
		if !isAmountByHand(d.At) || !isAmountByHand(d.Fuel) || d.Fuel.Num == 0 || ratOf(d.At).Cmp(last) <= 0 {
			return false
		}
		last = ratOf(d.At)
	}
	return true
}

func areTripByHand(s state, steps []step) bool {
	return isStateByHand(s) && areStepsByHand(steps)
}

func areStepsByHand(steps []step) bool {
	for _, st := range steps {
		if !isStepByHand(st) {
			return false
		}
	}
	return len(steps) <= 120
}

// behindByHand makes a step with numbers of any size, on fuel told by its place.
func behindByHand(s state, st step) (state, bool) {
	v, minus := ratOf(st.Value), new(big.Rat).Neg(ratOf(st.Value))
	place, tank := ratOf(s.Place), ratOf(s.Tank)
	stock := map[amount]*big.Rat{am(0, 1): ratOf(s.Supply)}
	for _, d := range s.Depots {
		stock[d.At] = ratOf(d.Fuel)
	}
	if stock[s.Place] == nil {
		stock[s.Place] = new(big.Rat)
	}
	here := stock[s.Place]
	switch st.Kind {
	case forth:
		place.Add(place, v)
		tank.Add(tank, minus)
	case back:
		place.Add(place, minus)
		tank.Add(tank, minus)
	case leave:
		here.Add(here, v)
		tank.Add(tank, minus)
	case take:
		here.Add(here, minus)
		tank.Add(tank, v)
	}
	return stateOf(place, tank, stock)
}

// stateOf tells the state with such numbers, if it is one.
func stateOf(place, tank *big.Rat, stock map[amount]*big.Rat) (state, bool) {
	var s state
	var placeOk, tankOk bool
	s.Place, placeOk = amountOf(place)
	s.Tank, tankOk = amountOf(tank)
	if !placeOk || !tankOk || tank.Cmp(big.NewRat(1, 1)) > 0 {
		return state{}, false
	}
	for at, rat := range stock {
		left, ok := amountOf(rat)
		if !ok {
			return state{}, false
		}
		if at == am(0, 1) {
			s.Supply = left
		} else if left.Num > 0 {
			s.Depots = append(s.Depots, depot{At: at, Fuel: left})
		}
	}
	slices.SortFunc(s.Depots, func(a, b depot) int { return ratOf(a.At).Cmp(ratOf(b.At)) })
	return s, len(s.Depots) <= 20
}

// tripByHand tells all states up to the first step that cannot be made.
func tripByHand(s state, steps []step) []state {
	states := []state{s}
	for _, st := range steps {
		next, ok := behindByHand(states[len(states)-1], st)
		if !ok {
			break
		}
		states = append(states, next)
	}
	return states
}

func sumByHandOf(list []amount) (amount, bool) {
	sum, result := new(big.Rat), am(0, 1)
	for _, a := range list {
		var ok bool
		if result, ok = amountOf(sum.Add(sum, ratOf(a))); !ok {
			return amount{}, false
		}
	}
	return result, true
}

func copyOf(s state) state {
	s.Depots = slices.Clone(s.Depots)
	return s
}

// checkTrip holds all functions of a state and of steps, whatever they are, against the trip made by hand.
// It also tells the arguments with room behind them, which nobody may touch.
func checkTrip(t *testing.T, s state, steps []step) {
	t.Helper()
	s.Depots = append(slices.Clone(s.Depots), depot{At: am(-5, 3)}, depot{At: am(77, 1), Fuel: am(1, 1)})[:len(s.Depots)]
	steps = append(slices.Clone(steps), step{Kind: 9}, step{Kind: 0, Value: am(1, 2)})[:len(steps)]
	stateBefore, stepsBefore := copyOf(s), slices.Clone(steps)
	what := fmt.Sprint("of ", s, steps)
	checkState(t, s)
	checkDriven(t, steps)

	valid, made := areTripByHand(s, steps), false
	var states []state
	var end state
	if valid {
		states = tripByHand(s, steps)
		if made = len(states) == len(steps)+1; made {
			end = states[len(steps)]
		}
	}
	got, ok := impl.PlaySteps(s, steps)
	expectState(t, "PlaySteps "+what, got, ok, end, made)
	wantIndex := 0
	if valid && !made {
		wantIndex = len(states) - 1
	}
	index, ok := impl.StepThatFails(s, steps)
	expect(t, "StepThatFails "+what, index, ok, wantIndex, valid && !made)
	checkWay(t, s, steps, states, made)
	if made {
		checkFuelKept(t, s, steps, end)
	}
	if len(steps) == 1 {
		got, ok := impl.PlayStep(s, steps[0])
		expectState(t, "PlayStep "+what, got, ok, end, made)
	}

	for i := range got.Depots {
		got.Depots[i] = depot{At: am(-1, -1)}
	}
	if !sameState(s, stateBefore) || !slices.Equal(steps, stepsBefore) {
		t.Errorf("the arguments became %v, %v; they were %v, %v", s, steps, stateBefore, stepsBefore)
	}
	spareDepots, spareSteps := s.Depots[len(s.Depots):len(s.Depots)+2], steps[len(steps):len(steps)+2]
	if spareDepots[0].At != am(-5, 3) || spareDepots[1] != (depot{At: am(77, 1), Fuel: am(1, 1)}) || spareSteps[0].Kind != 9 || spareSteps[1].Value != am(1, 2) {
		t.Error("the room behind an argument became", spareDepots, spareSteps)
	}
}

func checkState(t *testing.T, s state) {
	t.Helper()
	valid := isStateByHand(s)
	expect(t, fmt.Sprint("IsState ", s), impl.IsState(s), true, valid, true)
	var wantHere, wantAll amount
	allOk := false
	if valid {
		wantHere = am(0, 1)
		if s.Place == am(0, 1) {
			wantHere = s.Supply
		}
		parts := []amount{s.Supply}
		for _, d := range s.Depots {
			if d.At == s.Place {
				wantHere = d.Fuel
			}
			parts = append(parts, d.Fuel)
		}
		wantAll, allOk = sumByHandOf(append(parts, s.Tank))
	}
	here, ok := impl.FuelHere(s)
	expect(t, fmt.Sprint("FuelHere ", s), here, ok, wantHere, valid)
	all, ok := impl.FuelInAll(s)
	expect(t, fmt.Sprint("FuelInAll ", s), all, ok, wantAll, allOk)
}

func checkDriven(t *testing.T, steps []step) {
	t.Helper()
	want, wantOk := amount{}, false
	if areStepsByHand(steps) {
		var ways []amount
		for _, st := range steps {
			if st.Kind <= back {
				ways = append(ways, st.Value)
			}
		}
		want, wantOk = sumByHandOf(ways)
	}
	got, ok := impl.DrivenBy(steps)
	expect(t, fmt.Sprint("DrivenBy ", steps), got, ok, want, wantOk)
}

func checkWay(t *testing.T, s state, steps []step, states []state, made bool) {
	t.Helper()
	var farthest, taken amount
	takenOk := false
	if made {
		farthest = s.Place
		var list []amount
		for i, st := range steps {
			if ratOf(states[i+1].Place).Cmp(ratOf(farthest)) > 0 {
				farthest = states[i+1].Place
			}
			if st.Kind == take && states[i].Place == am(0, 1) {
				list = append(list, st.Value)
			}
		}
		taken, takenOk = sumByHandOf(list)
	}
	got, ok := impl.FarthestOf(s, steps)
	expect(t, fmt.Sprint("FarthestOf ", s, steps), got, ok, farthest, made)
	got, ok = impl.TakenAtStart(s, steps)
	expect(t, fmt.Sprint("TakenAtStart ", s, steps), got, ok, taken, takenOk)
}

// checkFuelKept is the promise 2: all fuel is kept but what is driven.
func checkFuelKept(t *testing.T, s state, steps []step, end state) {
	t.Helper()
	before, ok1 := impl.FuelInAll(s)
	after, ok2 := impl.FuelInAll(end)
	driven, ok3 := impl.DrivenBy(steps)
	if !ok1 || !ok2 || !ok3 {
		return
	}
	if sum := new(big.Rat).Add(ratOf(after), ratOf(driven)); sum.Cmp(ratOf(before)) != 0 {
		t.Errorf("%v %v: fuel %v before, %v behind, %v driven", s, steps, before, after, driven)
	}
}

func TestIsStep(t *testing.T) {
	for _, kind := range hostileInts() {
		for _, value := range []amount{am(1, 2), am(1000000000, 1), am(1, 1000000000), am(0, 1), am(2, 4), am(0, 0), am(-1, 2), am(1, -2), am(1000000001, 1)} {
			st := step{Kind: kind, Value: value}
			expect(t, fmt.Sprint("IsStep ", st), impl.IsStep(st), true, isStepByHand(st), true)
		}
	}
	for kind := -2; kind <= 6; kind++ {
		for _, value := range append(someAmounts(), hostileAmounts()...) {
			st := step{Kind: kind, Value: value}
			expect(t, fmt.Sprint("IsStep ", st), impl.IsStep(st), true, isStepByHand(st), true)
		}
	}
	for _, st := range []step{{}, {Kind: 0, Value: am(0, 1)}, {Kind: 4, Value: am(1, 1)}, {Kind: -1, Value: am(1, 1)}} {
		expect(t, fmt.Sprint("IsStep ", st), impl.IsStep(st), true, false, true)
	}
	for kind := range 4 {
		expect(t, "IsStep", impl.IsStep(step{Kind: kind, Value: am(1, 1)}), true, true, true)
	}
}

func stateWith(depots ...depot) state {
	return state{Place: am(0, 1), Tank: am(0, 1), Supply: am(0, 1), Depots: depots}
}

// wrongStates are no states, each of them for a reason of its own.
func wrongStates() []state {
	one := am(1, 1)
	return []state{
		{},
		{Place: am(2, 2), Tank: one, Supply: one},
		{Place: am(-1, 1), Tank: one, Supply: one},
		{Place: one, Tank: am(1, 0), Supply: one},
		{Place: one, Tank: am(2, 1), Supply: one},
		{Place: one, Tank: am(1000000000, 999999999), Supply: one},
		{Place: one, Tank: one, Supply: am(1000000001, 1)},
		{Place: one, Tank: one, Supply: am(1, 1000000001)},
		{Place: one, Tank: one},
		{Place: one, Supply: one},
		{Tank: one, Supply: one},
		stateWith(depot{At: am(0, 1), Fuel: one}),
		stateWith(depot{At: one, Fuel: am(0, 1)}),
		stateWith(depot{At: one}),
		stateWith(depot{Fuel: one}),
		stateWith(depot{}),
		stateWith(depot{At: am(2, 4), Fuel: one}),
		stateWith(depot{At: one, Fuel: am(2, 4)}),
		stateWith(depot{At: one, Fuel: one}, depot{At: one, Fuel: one}),
		stateWith(depot{At: am(2, 1), Fuel: one}, depot{At: one, Fuel: one}),
		stateWith(depot{At: one, Fuel: one}, depot{At: am(3, 1), Fuel: one}, depot{At: am(2, 1), Fuel: one}),
		stateWith(depot{At: one, Fuel: one}, depot{At: am(3, 2), Fuel: one}, depot{At: am(3, 2), Fuel: one}),
		stateWith(depot{At: one, Fuel: one}, depot{At: am(-2, 1), Fuel: one}),
		stateWith(depot{At: one, Fuel: one}, depot{At: am(2, 1), Fuel: am(-1, 1)}),
		stateWith(depot{At: am(math.MinInt, math.MinInt), Fuel: am(math.MaxInt, math.MaxInt)}),
		wideStart(21),
		wideStart(1000),
	}
}

func TestWrongStates(t *testing.T) {
	for _, s := range wrongStates() {
		if impl.IsState(s) {
			t.Error("IsState", s)
		}
		for _, steps := range [][]step{nil, stepsOf("f0+1/2"), stepsOf("b0+1/2 l0+1/4"), stepsOf("l1"), stepsOf("t1"), {{}}} {
			checkTrip(t, s, steps)
		}
	}
}

func TestIsState(t *testing.T) {
	for _, s := range []state{
		start(am(0, 1)), start(am(1000000000, 1)), wideStart(0), wideStart(1), wideStart(20),
		{Place: am(1000000000, 1), Tank: am(999999999, 1000000000), Supply: am(1, 1000000000)},
		{Place: am(1, 1), Tank: am(1, 1), Supply: am(0, 1), Depots: []depot{}},
		stateWith(depot{At: am(1, 1000000000), Fuel: am(1, 1000000000)}, depot{At: am(1, 999999999), Fuel: am(1000000000, 1)}, depot{At: am(1000000000, 1), Fuel: am(9, 1)}),
	} {
		if !impl.IsState(s) {
			t.Error("IsState not", s)
		}
		checkTrip(t, s, nil)
	}
	for _, a := range hostileAmounts() {
		for _, s := range []state{
			{Place: a, Tank: am(1, 2), Supply: am(3, 1)},
			{Place: am(1, 2), Tank: a, Supply: am(3, 1)},
			{Place: am(1, 2), Tank: am(1, 2), Supply: a},
			stateWith(depot{At: a, Fuel: am(1, 1)}),
			stateWith(depot{At: am(2, 1), Fuel: a}),
			stateWith(depot{At: am(2, 1), Fuel: am(1, 1)}, depot{At: a, Fuel: am(1, 1)}, depot{At: am(1001, 1), Fuel: am(1, 1)}),
			stateWith(depot{At: am(1, 2), Fuel: am(1, 1)}, depot{At: am(7, 1), Fuel: a}),
		} {
			checkState(t, s)
		}
	}
}

func TestFirstState(t *testing.T) {
	for _, a := range append(someAmounts(), hostileAmounts()...) {
		want, valid := state{}, isAmountByHand(a)
		if valid {
			want = start(a)
		}
		got, ok := impl.FirstState(a)
		expectState(t, fmt.Sprint("FirstState ", a), got, ok, want, valid)
	}
}

// TestTripExample is the example of chapter 2.
func TestTripExample(t *testing.T) {
	steps := stepsOf("t1 f0+1/3 l0+1/3 b0+1/3 t1 f0+1/3 t0+1/3 f1")
	first, ok := impl.FirstState(am(2, 1))
	expectState(t, "FirstState 2", first, ok, start(am(2, 1)), true)
	end, ok := impl.PlaySteps(first, steps)
	expectState(t, "the end", end, ok, state{Place: am(4, 3), Tank: am(0, 1), Supply: am(0, 1)}, true)
	middle, ok := impl.PlaySteps(first, steps[:3])
	expectState(t, "behind three steps", middle, ok,
		state{Place: am(1, 3), Tank: am(1, 3), Supply: am(1, 1), Depots: []depot{{At: am(1, 3), Fuel: am(1, 3)}}}, true)
	all, ok := impl.FuelInAll(first)
	expect(t, "FuelInAll at first", all, ok, am(2, 1), true)
	all, ok = impl.FuelInAll(end)
	expect(t, "FuelInAll in the end", all, ok, am(0, 1), true)
	driven, ok := impl.DrivenBy(steps)
	expect(t, "DrivenBy", driven, ok, am(2, 1), true)
	plan, ok := impl.PlanOut(2)
	expectList(t, "PlanOut 2", plan, ok, steps, true)
	plan, _ = impl.PlanBack(2)
	farthest, ok := impl.FarthestOf(first, plan)
	expect(t, "FarthestOf PlanBack 2", farthest, ok, am(3, 4), true)
}

// TestSingleSteps tells the edges of each Kind by what they have to give.
func TestSingleSteps(t *testing.T) {
	at := func(place, tank, supply amount, depots ...depot) state {
		return state{Place: place, Tank: tank, Supply: supply, Depots: depots}
	}
	none, half, third, one, two := am(0, 1), am(1, 2), am(1, 3), am(1, 1), am(2, 1)
	rows := []struct {
		what string
		from state
		step string
		want state
	}{
		{"forth with just enough", at(none, half, two), "f0+1/2", at(half, none, two)},
		{"forth with less left", at(half, one, two), "f0+1/3", at(am(5, 6), am(2, 3), two)},
		{"forth with too little", at(none, half, two), "f0+51/100", state{}},
		{"forth with an empty tank", at(none, none, two), "f0+1/999999", state{}},
		{"forth to the end of all amounts", at(am(999999999, 1), one, two), "f1", at(am(1000000000, 1), none, two)},
		{"forth beyond all amounts", at(am(1000000000, 1), one, two), "f1", state{}},
		{"forth to a place that is none", at(am(1, aPrime), half, two), "f0+1/2", state{}},
		{"forth with a tank that is none", at(none, am(1, 31623), two), "f0+1/31624", state{}},
		{"back to the start", at(half, half, two), "b0+1/2", at(none, none, two)},
		{"back to the start with more", at(half, one, two), "b0+1/2", at(none, half, two)},
		{"back to a place before", at(one, half, two), "b0+1/3", at(am(2, 3), am(1, 6), two)},
		{"back beyond the start", at(half, one, two), "b0+51/100", state{}},
		{"back at the start", at(none, one, two), "b0+1/999999", state{}},
		{"back with too little", at(two, half, two), "b0+51/100", state{}},
		{"back to a place with a great Den", at(am(1, 2), one, two), "b0+1/999983", at(am(999981, 1999966), am(999982, 999983), two)},
		{"back to a place that is none", at(am(1, 31623), one, two), "b0+1/31624", state{}},
		{"back with a tank that is none", at(one, am(1, 31623), two), "b0+1/31624", state{}},
		{"leave all in a new depot", at(half, third, two), "l0+1/3", at(half, none, two, dep(half, third))},
		{"leave some in a depot", at(half, one, two, dep(half, third)), "l0+1/6", at(half, am(5, 6), two, dep(half, half))},
		{"leave at the start", at(none, half, two), "l0+1/3", at(none, am(1, 6), am(7, 3))},
		{"leave at the start where nothing was", at(none, half, none), "l0+1/2", at(none, none, half)},
		{"leave more than there is", at(half, third, two), "l0+17/50", state{}},
		{"leave too much for an amount", at(none, one, am(1000000000, 1)), "l1", state{}},
		{"leave as much as an amount can be", at(none, one, am(999999999, 1)), "l1", at(none, none, am(1000000000, 1))},
		{"leave what makes a supply that is none", at(none, am(1, 1), am(1, 31623)), "l0+1/31624", state{}},
		{"leave what makes a depot that is none", at(one, am(1, 1), two, dep(one, am(1, 31623))), "l0+1/31624", state{}},
		{"leave what makes a tank that is none", at(one, am(1, 31623), two), "l0+1/31624", state{}},
		{"take all of a depot", at(half, third, two, dep(half, third)), "t0+1/3", at(half, am(2, 3), two)},
		{"take some of a depot", at(half, third, two, dep(half, half)), "t0+1/3", at(half, am(2, 3), two, dep(half, am(1, 6)))},
		{"take all of the supply", at(none, half, half), "t0+1/2", at(none, one, none)},
		{"take to a full tank", at(none, third, two), "t0+2/3", at(none, one, am(4, 3))},
		{"take to more than a full tank", at(none, third, two), "t0+67/100", state{}},
		{"take with a full tank", at(none, one, two), "t0+1/999999", state{}},
		{"take more than there is", at(half, none, two, dep(half, third)), "t0+1/2", state{}},
		{"take more than the supply", at(none, none, half), "t0+51/100", state{}},
		{"take where no depot is", at(half, none, two, dep(third, one), dep(one, one)), "t0+1/3", state{}},
		{"take what makes a tank that is none", at(none, am(1, 31623), two), "t0+1/31624", state{}},
		{"take what makes a supply that is none", at(none, none, am(1, 31623)), "t0+1/31624", state{}},
		{"take what makes a depot that is none", at(one, none, two, dep(one, am(1, 31623))), "t0+1/31624", state{}},
		{"take out of the middle", at(two, none, two, dep(one, one), dep(two, half), dep(am(3, 1), third)), "t0+1/2", at(two, half, two, dep(one, one), dep(am(3, 1), third))},
		{"leave in the middle", at(two, half, two, dep(one, one), dep(am(3, 1), third)), "l0+1/2", at(two, none, two, dep(one, one), dep(two, half), dep(am(3, 1), third))},
		{"leave before all depots", at(half, half, two, dep(one, one)), "l0+1/2", at(half, none, two, dep(half, half), dep(one, one))},
		{"leave behind all depots", at(two, half, two, dep(one, one)), "l0+1/2", at(two, none, two, dep(one, one), dep(two, half))},
	}
	for _, r := range rows {
		st := stepsOf(r.step)[0]
		got, ok := impl.PlayStep(r.from, st)
		expectState(t, r.what, got, ok, r.want, r.want.Place != amount{})
		checkTrip(t, r.from, []step{st})
	}
}

// TestStepsThatAreNone fails for them though they would be the first ones that cannot be made.
func TestStepsThatAreNone(t *testing.T) {
	from := state{Place: am(1, 1), Tank: am(1, 2), Supply: am(2, 1), Depots: []depot{{At: am(1, 1), Fuel: am(1, 2)}}}
	var wrong []step
	for _, kind := range hostileInts() {
		wrong = append(wrong, step{Kind: kind, Value: am(1, 4)}, step{Kind: kind, Value: am(0, 1)}, step{Kind: kind})
	}
	for _, a := range hostileAmounts() {
		wrong = append(wrong, step{Kind: a.Num & 3, Value: a})
	}
	for _, st := range wrong {
		checkTrip(t, from, []step{st})
	}
	for _, st := range []step{{}, {Kind: 4, Value: am(1, 4)}, {Kind: -1, Value: am(1, 4)}, {Kind: leave, Value: am(0, 1)}, {Kind: take, Value: am(2, 8)}} {
		for _, steps := range [][]step{{st}, {stepsOf("f9")[0], st}, {st, stepsOf("f9")[0]}, {stepsOf("f0+1/4")[0], st}} {
			checkTrip(t, from, steps)
			index, ok := impl.StepThatFails(from, steps)
			expect(t, fmt.Sprint("StepThatFails ", steps), index, ok, 0, false)
		}
	}
}

func TestNoStep(t *testing.T) {
	for _, s := range []state{start(am(3, 2)), wideStart(20), wideStart(3)} {
		for _, steps := range [][]step{nil, {}} {
			checkTrip(t, s, steps)
			end, ok := impl.PlaySteps(s, steps)
			expectState(t, "PlaySteps of none", end, ok, s, true)
			index, ok := impl.StepThatFails(s, steps)
			expect(t, "StepThatFails of none", index, ok, 0, false)
			farthest, ok := impl.FarthestOf(s, steps)
			expect(t, "FarthestOf none", farthest, ok, s.Place, true)
			taken, ok := impl.TakenAtStart(s, steps)
			expect(t, "TakenAtStart of none", taken, ok, am(0, 1), true)
			driven, ok := impl.DrivenBy(steps)
			expect(t, "DrivenBy none", driven, ok, am(0, 1), true)
		}
	}
}

// TestResultsShareNothing changes a result, and then an argument: the other one has to stay.
func TestResultsShareNothing(t *testing.T) {
	plays := []func(state) (state, bool){
		func(s state) (state, bool) { return impl.PlaySteps(s, nil) },
		func(s state) (state, bool) { return impl.PlaySteps(s, stepsOf("f0+1/2")) },
		func(s state) (state, bool) { return impl.PlayStep(s, stepsOf("b0+1/2")[0]) },
	}
	for _, play := range plays {
		s := wideStart(5)
		end, ok := play(s)
		if !ok || !slices.Equal(end.Depots, s.Depots) {
			t.Fatal("depots", end.Depots, ok)
		}
		end.Depots[2].Fuel = am(99, 1)
		_ = append(end.Depots, depot{At: am(98, 1)})
		if !sameState(s, wideStart(5)) {
			t.Error("the argument became", s)
		}
		s.Depots[3].Fuel = am(97, 1)
		if end.Depots[3] != wideStart(5).Depots[3] {
			t.Error("the result became", end)
		}
	}
	first, _ := impl.PlanOut(3)
	first[0] = step{}
	if second, _ := impl.PlanOut(3); second[0] != stepsOf("t1")[0] {
		t.Error("after a change of the first plan", second)
	}
}

func TestDepotsComeAndGo(t *testing.T) {
	s := start(am(5, 1))
	for _, steps := range []string{
		"t1 f0+1/4 l0+1/2 t0+1/2",
		"t1 f0+1/4 l0+1/2 t0+1/4 t0+1/4 b0+1/4 l0+1/2",
		"t1 f0+1/4 l0+1/4 f0+1/8 l0+1/8 b0+1/16 l0+1/16 f0+1/16 t0+1/8",
		"t1 l1 t1 l0+1/2 t0+1/2 f1 t0+1/2",
		"t1 f0+1/2 l0+1/2 t0+1/2 l0+1/2 t0+1/2 t0+1/2",
	} {
		checkTrip(t, s, stepsOf(steps))
	}
	end, ok := impl.PlaySteps(s, stepsOf("t1 f0+1/4 l0+1/2 t0+1/2"))
	expectState(t, "left and taken", end, ok, state{Place: am(1, 4), Tank: am(3, 4), Supply: am(4, 1)}, true)
}

func TestTwentyDepots(t *testing.T) {
	for count := range 21 {
		s := wideStart(count)
		steps := stepsOf("l0+1/4")
		checkTrip(t, s, steps)
		end, ok := impl.PlaySteps(s, steps)
		if ok != (count < 20) || ok && len(end.Depots) != count+1 {
			t.Error("a depot more than", count, end, ok)
		}
		index, ok := impl.StepThatFails(s, stepsOf("f0+1/4 l0+1/4 b0+1/4"))
		expect(t, fmt.Sprint("StepThatFails with ", count), index, ok, count/20, count == 20)
	}
	// With 20 depots fuel can still be left at one of them and at the start, and elsewhere when one is gone.
	full := wideStart(20)
	full.Place = am(20, 1)
	full.Tank = am(1, 2)
	for _, steps := range []string{"l0+1/2", "t0+1/21 f0+1/8 l0+1/8", "f0+1/8 l0+1/8", "t0+1/42 f0+1/8 l0+1/8"} {
		checkTrip(t, full, stepsOf(steps))
	}
	end, ok := impl.PlaySteps(full, stepsOf("t0+1/21 f0+1/8 l0+1/8"))
	if !ok || len(end.Depots) != 20 || end.Depots[19].At != am(161, 8) {
		t.Error("a depot instead of another", end, ok)
	}
	full.Place = am(0, 1)
	checkTrip(t, full, stepsOf("l0+1/2 t0+1/2 t0+1/2"))
}

func TestTwentyDepotsMadeOneByOne(t *testing.T) {
	steps := stepsOf("t1")
	for range 21 {
		steps = append(steps, stepsOf("f0+1/100 l0+1/100")...)
	}
	s := start(am(2, 1))
	end, ok := impl.PlaySteps(s, steps[:41])
	if !ok || len(end.Depots) != 20 {
		t.Error("20 depots", end, ok)
	}
	index, ok := impl.StepThatFails(s, steps)
	expect(t, "StepThatFails of the 21st", index, ok, 42, true)
	for n := range len(steps) + 1 {
		checkTrip(t, s, steps[:n])
	}
}

func TestHundredAndTwentySteps(t *testing.T) {
	var steps []step
	for range 61 {
		steps = append(steps, stepsOf("t1 l1")...)
	}
	s := start(am(2, 1))
	for _, n := range []int{1, 119, 120, 121, 122} {
		checkTrip(t, s, steps[:n])
	}
	end, ok := impl.PlaySteps(s, steps[:120])
	expectState(t, "120 steps", end, ok, s, true)
	taken, ok := impl.TakenAtStart(s, steps[:120])
	expect(t, "TakenAtStart of 120 steps", taken, ok, am(60, 1), true)
	end, ok = impl.PlaySteps(s, steps[:121])
	expectState(t, "121 steps", end, ok, state{}, false)
	driven, ok := impl.DrivenBy(slices.Repeat(stepsOf("b1"), 120))
	expect(t, "DrivenBy 120 steps", driven, ok, am(120, 1), true)
	for _, list := range [][]step{slices.Repeat(stepsOf("b1"), 121), slices.Repeat(stepsOf("f2"), 121), slices.Repeat(stepsOf("f1"), 5000)} {
		driven, ok = impl.DrivenBy(list)
		expect(t, "DrivenBy too many steps", driven, ok, amount{}, false)
		index, ok := impl.StepThatFails(s, list)
		expect(t, "StepThatFails of too many steps", index, ok, 0, false)
		checkTrip(t, s, list)
	}
	index, ok := impl.StepThatFails(s, append(steps[:119:119], stepsOf("f9")...))
	expect(t, "StepThatFails at the last of 120", index, ok, 119, true)
}

func TestStepThatFails(t *testing.T) {
	s := start(am(2, 1))
	rows := []struct {
		steps string
		want  int
		ok    bool
	}{
		{"f0+1/2 t1 f0+1/2", 0, true},
		{"b0+1/2", 0, true},
		{"t1 f0+1/2 b0+3/4 f0+1/2", 2, true},
		{"t1 f0+1/2 l0+1/2 f0+1/8 t1", 3, true},
		{"t1 f0+1/2 f0+3/4", 2, true},
		{"t1 t1", 1, true},
		{"t1 l1 t1 l1 t1", 0, false},
		{"t1 f1", 0, false},
		{"t0+1/999983 t0+1/999979", 1, true},
		{"t1 f0+1/999983 f0+1/999979 f0+1/2", 2, true},
	}
	for _, r := range rows {
		index, ok := impl.StepThatFails(s, stepsOf(r.steps))
		expect(t, "StepThatFails "+r.steps, index, ok, r.want, r.ok)
		checkTrip(t, s, stepsOf(r.steps))
	}
}

func TestFuelHere(t *testing.T) {
	s := wideStart(3)
	for _, r := range []struct{ place, want amount }{
		{am(0, 1), am(5, 1)}, {am(1, 1), am(1, 2)}, {am(2, 1), am(1, 3)}, {am(3, 1), am(1, 4)}, {am(4, 1), am(0, 1)}, {am(3, 2), am(0, 1)}, {am(1, 2), am(0, 1)},
	} {
		s.Place = r.place
		got, ok := impl.FuelHere(s)
		expect(t, fmt.Sprint("FuelHere at ", r.place), got, ok, r.want, true)
		checkTrip(t, s, nil)
	}
}

// TestFuelInAll is added in the told order: one sum that is no amount is enough to fail.
func TestFuelInAll(t *testing.T) {
	p := aPrime
	rows := []struct {
		what                   string
		supply, one, two, tank amount
		want                   amount
		ok                     bool
	}{
		{"small", am(2, 1), am(1, 3), am(1, 6), am(1, 2), am(3, 1), true},
		{"in an order that goes", am(1, p), am(p-1, p), am(1, 2), am(1, 2), am(2, 1), true},
		{"none in between", am(1, p), am(1, 2), am(p-1, p), am(1, 2), amount{}, false},
		{"the depots before the tank", am(1, 2), am(1, p), am(1, 2), am(p-1, p), amount{}, false},
		{"the tank behind the depots", am(1, p), am(p-1, p), am(1, 2), am(1, 3), am(11, 6), true},
		{"none with the tank alone", am(1, p), am(p-1, p), am(1, 31623), am(1, 31624), amount{}, false},
		{"as much as an amount", am(999999997, 1), am(1, 1), am(1, 1), am(1, 1), am(1000000000, 1), true},
		{"more than an amount", am(999999998, 1), am(1, 1), am(1, 1), am(1, 1), amount{}, false},
	}
	for _, r := range rows {
		s := stateWith(depot{At: am(1, 1), Fuel: r.one}, depot{At: am(2, 1), Fuel: r.two})
		s.Supply, s.Tank = r.supply, r.tank
		got, ok := impl.FuelInAll(s)
		expect(t, "FuelInAll "+r.what, got, ok, r.want, r.ok)
		checkTrip(t, s, nil)
	}
}

func TestDrivenBy(t *testing.T) {
	p := aPrime
	drive := func(ways ...amount) []step {
		var steps []step
		for i, way := range ways {
			steps = append(steps, step{Kind: i % 2, Value: way})
		}
		return steps
	}
	rows := []struct {
		what  string
		steps []step
		want  amount
		ok    bool
	}{
		{"none", nil, am(0, 1), true},
		{"only fuel", stepsOf("t1 l0+1/2 t7"), am(0, 1), true},
		{"forth and back", stepsOf("f0+1/2 b0+1/3"), am(5, 6), true},
		{"what no jeep could", stepsOf("b9 l5 b9"), am(18, 1), true},
		{"in an order that goes", drive(am(1, p), am(p-1, p), am(1, 2)), am(3, 2), true},
		{"none in between", drive(am(1, p), am(1, 2), am(p-1, p)), amount{}, false},
		{"as much as an amount", drive(am(999999999, 1), am(1, 1)), am(1000000000, 1), true},
		{"more than an amount", drive(am(1000000000, 1), am(1, 1000000000)), amount{}, false},
		{"fuel that would not fit", []step{stp(forth, am(1, 2)), stp(leave, am(1, p)), stp(take, am(1000000000, 1)), stp(back, am(1, 2))}, am(1, 1), true},
		{"a step that is none", []step{stp(forth, am(1, 2)), stp(4, am(1, 2))}, amount{}, false},
		{"leaving that is none", []step{stp(forth, am(1, 2)), stp(leave, am(0, 1))}, amount{}, false},
	}
	for _, r := range rows {
		got, ok := impl.DrivenBy(r.steps)
		expect(t, "DrivenBy "+r.what, got, ok, r.want, r.ok)
		checkTrip(t, start(am(2, 1)), r.steps)
	}
}

func TestFarthestOf(t *testing.T) {
	rows := []struct {
		from  state
		steps string
		want  amount
	}{
		{start(am(2, 1)), "t1 f0+1/2 b0+1/2", am(1, 2)},
		{start(am(2, 1)), "t1 f0+1/4 b0+1/8 f0+1/4 b0+3/8", am(3, 8)},
		{start(am(2, 1)), "t1 f0+1/4 f0+1/4 b0+1/4 f0+1/4", am(1, 2)},
		{start(am(2, 1)), "t1 l0+1/2", am(0, 1)},
		{wideStart(2), "b0+1/2 b0+1/2", am(100, 1)},
		{wideStart(2), "b0+1/4 f0+1/2", am(401, 4)},
	}
	for _, r := range rows {
		got, ok := impl.FarthestOf(r.from, stepsOf(r.steps))
		expect(t, "FarthestOf "+r.steps, got, ok, r.want, true)
		checkTrip(t, r.from, stepsOf(r.steps))
	}
	got, ok := impl.FarthestOf(start(am(2, 1)), stepsOf("t1 f1 f1"))
	expect(t, "FarthestOf steps that cannot be made", got, ok, amount{}, false)
}

func TestTakenAtStart(t *testing.T) {
	rows := []struct {
		steps string
		want  amount
		ok    bool
	}{
		{"t1", am(1, 1), true},
		{"t1 l1 t1 l0+1/2", am(2, 1), true},
		{"t1 f0+1/4 l0+1/2 t0+1/2 b0+1/4 t0+1/2", am(3, 2), true},
		{"t0+1/31623 l0+1/31623 t0+1/31624", amount{}, false},
		{"t1 f1 t1", amount{}, false},
	}
	for _, r := range rows {
		got, ok := impl.TakenAtStart(start(am(4, 1)), stepsOf(r.steps))
		expect(t, "TakenAtStart "+r.steps, got, ok, r.want, r.ok)
		checkTrip(t, start(am(4, 1)), stepsOf(r.steps))
	}
	_, ok := impl.PlaySteps(start(am(4, 1)), stepsOf("t0+1/31623 l0+1/31623 t0+1/31624"))
	if !ok {
		t.Error("these steps can be made, though what they take is no amount")
	}
}

// TestTripsByChance plays trips of steps drawn with fixed seeds, most of which can be made.
func TestTripsByChance(t *testing.T) {
	played := 0
	for seed := range uint64(400) {
		draw := rand.New(rand.NewPCG(seed, 2))
		s := start(am(1+draw.IntN(30), 1+draw.IntN(2)*6))
		if !isAmountByHand(s.Supply) {
			s.Supply = am(10, 1)
		}
		steps := tripByChance(draw, s, draw.IntN(121), seed%3 == 0)
		checkTrip(t, s, steps)
		for range 3 {
			checkTrip(t, s, steps[:draw.IntN(len(steps)+1)])
		}
		if _, ok := impl.PlaySteps(s, steps); ok && len(steps) > 20 {
			played++
		}
	}
	if played < 100 {
		t.Error("too few trips that can be made", played)
	}
}

// tripByChance draws steps that can be made, and now and then, if it may, one that cannot.
func tripByChance(draw *rand.Rand, s state, count int, mayFail bool) []step {
	var steps []step
	for len(steps) < count {
		st := step{Kind: draw.IntN(4), Value: am(1+draw.IntN(8), 1)}
		if den := []int{1, 2, 3, 4, 6, 8, 12, 24, 5, 7, 99991}[draw.IntN(11)]; isAmountByHand(am(st.Value.Num, den)) {
			st.Value.Den = den
		}
		next, ok := behindByHand(s, st)
		if ok {
			s = next
			steps = append(steps, st)
		} else if mayFail && draw.IntN(200) == 0 {
			steps = append(steps, st)
		} else if draw.IntN(2000) == 0 {
			break
		}
	}
	return steps
}

func TestPlanSteps(t *testing.T) {
	outs := []string{
		"t1 f1",
		"t1 f0+1/3 l0+1/3 b0+1/3 t1 f0+1/3 t0+1/3 f1",
		"t1 f0+1/5 l0+3/5 b0+1/5 t1 f0+1/5 l0+3/5 b0+1/5 t1 f0+1/5 " +
			"t0+1/5 f0+1/3 l0+1/3 b0+1/3 t1 f0+1/3 t0+1/3 f1",
		"t1 f0+1/7 l0+5/7 b0+1/7 t1 f0+1/7 l0+5/7 b0+1/7 t1 f0+1/7 l0+5/7 b0+1/7 t1 f0+1/7 " +
			"t0+1/7 f0+1/5 l0+3/5 b0+1/5 t1 f0+1/5 l0+3/5 b0+1/5 t1 f0+1/5 " +
			"t0+1/5 f0+1/3 l0+1/3 b0+1/3 t1 f0+1/3 t0+1/3 f1",
	}
	backs := []string{
		"t1 f0+1/2 b0+1/2",
		"t1 f0+1/4 l0+1/2 b0+1/4 t1 f0+1/4 t0+1/4 f0+1/2 b0+1/2 t0+1/4 b0+1/4",
		"t1 f0+1/6 l0+2/3 b0+1/6 t1 f0+1/6 l0+2/3 b0+1/6 t1 f0+1/6 " +
			"t0+1/6 f0+1/4 l0+1/2 b0+1/4 t1 f0+1/4 t0+1/4 f0+1/2 b0+1/2 t0+1/4 b0+1/4 t0+1/6 b0+1/6",
		"t1 f0+1/8 l0+3/4 b0+1/8 t1 f0+1/8 l0+3/4 b0+1/8 t1 f0+1/8 l0+3/4 b0+1/8 t1 f0+1/8 " +
			"t0+1/8 f0+1/6 l0+2/3 b0+1/6 t1 f0+1/6 l0+2/3 b0+1/6 t1 f0+1/6 " +
			"t0+1/6 f0+1/4 l0+1/2 b0+1/4 t1 f0+1/4 t0+1/4 f0+1/2 b0+1/2 t0+1/4 b0+1/4 t0+1/6 b0+1/6 t0+1/8 b0+1/8",
	}
	for i := range 4 {
		got, ok := impl.PlanOut(i + 1)
		expectList(t, fmt.Sprint("PlanOut ", i+1), got, ok, stepsOf(outs[i]), true)
		got, ok = impl.PlanBack(i + 1)
		expectList(t, fmt.Sprint("PlanBack ", i+1), got, ok, stepsOf(backs[i]), true)
	}
	for _, n := range append(hostileInts(), 5, 6) {
		if n < 1 || n > 4 {
			got, ok := impl.PlanOut(n)
			expectList(t, fmt.Sprint("PlanOut ", n), got, ok, nil, false)
			got, ok = impl.PlanBack(n)
			expectList(t, fmt.Sprint("PlanBack ", n), got, ok, nil, false)
		}
	}
}

// TestPlansComeAsFarAsJeepsDo is the promise 2 for plans: all their fuel is driven, and their ways are those of chapter 3.
func TestPlansComeAsFarAsJeepsDo(t *testing.T) {
	for n := 1; n <= 4; n++ {
		first := start(am(n, 1))
		outWay, _ := amountOf(sumByHand(n, 2))
		backWay, _ := amountOf(new(big.Rat).Mul(sumByHand(n, 1), big.NewRat(1, 2)))
		out, _ := impl.PlanOut(n)
		home, _ := impl.PlanBack(n)
		for _, r := range []struct {
			what          string
			steps         []step
			end, farthest amount
		}{{"PlanOut", out, outWay, outWay}, {"PlanBack", home, am(0, 1), backWay}} {
			what := fmt.Sprint(r.what, " ", n)
			end, ok := impl.PlaySteps(first, r.steps)
			expectState(t, what, end, ok, state{Place: r.end, Tank: am(0, 1), Supply: am(0, 1)}, true)
			farthest, ok := impl.FarthestOf(first, r.steps)
			expect(t, what+" farthest", farthest, ok, r.farthest, true)
			driven, ok := impl.DrivenBy(r.steps)
			expect(t, what+" driven", driven, ok, am(n, 1), true)
			taken, ok := impl.TakenAtStart(first, r.steps)
			expect(t, what+" taken", taken, ok, am(n, 1), true)
			checkTrip(t, first, r.steps)
		}
	}
}

func TestStepTexts(t *testing.T) {
	rows := []struct {
		step step
		text string
	}{
		{stp(forth, am(1, 3)), "f0+1/3"}, {stp(back, am(7, 2)), "b3+1/2"}, {stp(leave, am(1, 1)), "l1"}, {stp(take, am(999999, 1)), "t999999"},
		{stp(forth, am(1, 999999)), "f0+1/999999"}, {stp(take, am(999998, 999999)), "t0+999998/999999"},
		{stp(back, am(999999001, 1000)), "b999999+1/1000"},
	}
	for _, r := range rows {
		text, ok := impl.StepText(r.step)
		expect(t, fmt.Sprint("StepText ", r.step), text, ok, r.text, true)
		st, ok := impl.ParseStep(r.text)
		expect(t, "ParseStep "+r.text, st, ok, r.step, true)
	}
	none := []step{
		{}, stp(4, am(1, 1)), stp(-1, am(1, 1)), stp(math.MaxInt, am(1, 1)), stp(math.MinInt, am(1, 1)), stp(256, am(1, 1)),
		stp(forth, am(0, 1)), stp(back, am(2, 4)), stp(leave, am(1, 0)), stp(take, am(-1, 1)),
		stp(forth, am(1000000, 1)), stp(back, am(1, 1000000)), stp(leave, am(1000000000, 1)), stp(take, am(999999, 1000000)),
	}
	for _, st := range none {
		text, ok := impl.StepText(st)
		expect(t, fmt.Sprint("StepText ", st), text, ok, "", false)
	}
	for i, value := range append(someAmounts(), hostileAmounts()...) {
		st := step{Kind: i % 4, Value: value}
		amountText, wantOk := impl.AmountText(value)
		want := ""
		if wantOk = wantOk && value.Num > 0; wantOk {
			want = "fblt"[i%4:i%4+1] + amountText
		}
		text, ok := impl.StepText(st)
		expect(t, fmt.Sprint("StepText ", st), text, ok, want, wantOk)
		if ok {
			again, ok := impl.ParseStep(text)
			expect(t, "ParseStep "+text, again, ok, st, true)
		}
	}
}

func TestTextsOfNoStep(t *testing.T) {
	none := []string{
		"", " ", "f", "b", "l", "t", "ff", "ft1", "1", "0+1/3", "1f", "f0", "b0", "l0", "t0", "F1", "B1", "L1", "T1", "x1", "a1", "e1", "s1",
		" f1", "f 1", "f1 ", "f1\n", "f1\x00", "\x00f1", "f-1", "f+1", "f01", "f00", "f1.5", "f1/2", "f1+", "f0+0/1", "f0+1/1", "f0+2/4", "f0+3/2", "f0+1/0", "f0+1/02",
		"f1000000", "f0+1/1000000", "t999999+999998/999999", "f1,b1", "f1 b1", "f1b1", "f0+1/3b0+1/3", "fblt1", "bl1", "lt1", "ﬁ1", "ｆ1", "f１", "\xff1", "\xfff1", "f\xff", "\x001", "\x021", "\x031", "01", "31", "t+1/2", "0:1", "f:1",
		strings.Repeat("f", 100000), "f" + strings.Repeat("9", 100000), "f" + strings.Repeat("0", 100000) + "1", strings.Repeat("\xff", 1000),
	}
	for _, s := range none {
		st, ok := impl.ParseStep(s)
		if ok || st != (step{}) {
			t.Errorf("ParseStep %.60q: got %v, %v", s, st, ok)
		}
	}
	for c := range 256 {
		kind := strings.IndexByte("fblt", byte(c))
		want := step{}
		if kind >= 0 {
			want = step{Kind: kind, Value: am(5, 3)}
		}
		got, ok := impl.ParseStep(string([]byte{byte(c)}) + "1+2/3")
		expect(t, fmt.Sprint("ParseStep with the byte ", c), got, ok, want, kind >= 0)
	}
}

// TestEveryShortStepText parses each text of a few of the bytes that matter: it succeeds exactly for the texts of steps.
func TestEveryShortStepText(t *testing.T) {
	texts := map[string]step{}
	for kind, letter := range []string{"f", "b", "l", "t"} {
		for num := 1; num <= 3000; num++ {
			texts[letter+fmt.Sprint(num)] = step{Kind: kind, Value: am(num, 1)}
		}
		for _, a := range []amount{am(1, 2), am(3, 2), am(5, 2)} {
			texts[letter+fmt.Sprintf("%d+1/2", a.Num/2)] = step{Kind: kind, Value: a}
		}
	}
	found := 0
	var grow func(s string, more int)
	grow = func(s string, more int) {
		want, wantOk := texts[s]
		if wantOk {
			found++
		}
		got, ok := impl.ParseStep(s)
		expect(t, "ParseStep "+s, got, ok, want, wantOk)
		if more > 0 {
			for _, c := range []string{"f", "b", "l", "t", "0", "1", "2", "+", "/"} {
				grow(s+c, more-1)
			}
		}
	}
	grow("", 5)
	if found < 100 {
		t.Error("too few texts", found)
	}
}
