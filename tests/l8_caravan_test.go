package tests

import (
	"fmt"
	"math/big"
	"math/rand/v2"
	"slices"
	"testing"

	"loop.example/g01258/impl"
)

type caravan = impl.Caravan

func car(from, sets, speed int) caravan {
	return caravan{From: from, Sets: sets, Speed: speed}
}

func quotient(a, b *big.Rat) *big.Rat {
	return new(big.Rat).Quo(a, b)
}

func isCaravanByHand(a caravan) bool {
	return a.From >= 0 && a.From <= 1000 && a.Sets >= 0 && a.Sets <= 1000 && a.Speed >= 1 && a.Speed <= 1000
}

func isTimeByHand(a amount) bool {
	return isAmountByHand(a) && a.Den <= 1000 && ratOf(a).Cmp(rat(1000, 1)) <= 0
}

// areTravelsByHand tells whether all are ways, lengths or speeds.
func areTravelsByHand(list ...int) bool {
	for _, n := range list {
		if n < 1 || n > 1000 {
			return false
		}
	}
	return true
}

// placeByHand takes times of any length.
func placeByHand(a caravan, time *big.Rat) *big.Rat {
	gone := less(time, rat(a.Sets, 1))
	if gone.Sign() <= 0 {
		return rat(a.From, 1)
	}
	return sum(rat(a.From, 1), product(rat(a.Speed, 1), gone))
}

// catchByHand looks how far both are apart when the later one sets out, and how this changes in a time of 1.
func catchByHand(a, b caravan) (*big.Rat, bool) {
	if !isCaravanByHand(a) || !isCaravanByHand(b) {
		return nil, false
	}
	later := rat(max(a.Sets, b.Sets), 1)
	lead := func(time *big.Rat) *big.Rat { return less(placeByHand(b, time), placeByHand(a, time)) }
	now := lead(later)
	shrinks := less(now, lead(sum(later, rat(1, 1))))
	switch {
	case now.Sign() == 0:
		return later, true
	case now.Sign() != shrinks.Sign():
		return nil, false
	}
	return sum(later, quotient(now, shrinks)), true
}

// gapByHand tells how far two that come from both ends of a way are apart, less than nothing once they have met.
func gapByHand(a, b caravan, way int, time *big.Rat) *big.Rat {
	return less(rat(way, 1), sum(placeByHand(a, time), placeByHand(b, time)))
}

// meetByHand goes on from one setting out to the other one, and then until they must have met.
func meetByHand(a, b caravan, way int) (*big.Rat, bool) {
	if !isCaravanByHand(a) || !isCaravanByHand(b) || !areTravelsByHand(way) {
		return nil, false
	}
	now := rat(0, 1)
	gap := gapByHand(a, b, way, now)
	if gap.Sign() <= 0 {
		return now, gap.Sign() == 0
	}
	for _, mark := range []int{min(a.Sets, b.Sets), max(a.Sets, b.Sets), 3000} {
		next := rat(mark, 1)
		left := gapByHand(a, b, way, next)
		if left.Sign() <= 0 {
			part := quotient(gap, less(gap, left))
			return sum(now, product(part, less(next, now))), true
		}
		now, gap = next, left
	}
	return nil, false
}

// someResult tells a number of any size as a result: it fails if there is none, or if it is no amount.
func someResult(r *big.Rat, ok bool) (amount, bool) {
	if !ok {
		return amount{}, false
	}
	return amountOf(r)
}

// travelNumbers lie at, below and above the limits of this chapter, and those of int.
func travelNumbers() []int {
	return append(hostileInts(), 4, 5, 6, 8, 9, 12, 30, 100, 500, 997, 998, 1002, 1999, 2000, 2001, 3000)
}

// travelTimes are times, amounts that are too late or have too great a Den, and no amounts.
func travelTimes() []amount {
	list := append(hostileAmounts(), someAmounts()...)
	for _, den := range []int{1, 2, 3, 7, 500, 997, 998, 999, 1000, 1001, 1002} {
		for _, whole := range []int{0, 1, 2, 10, 500, 999, 1000, 1001} {
			for _, num := range []int{-1, 0, 1, 2, den / 2, den - 1} {
				list = append(list, am(whole*den+num, den))
			}
		}
	}
	return list
}

func someCaravans() []caravan {
	var list []caravan
	for _, from := range []int{0, 1, 7, 500, 999, 1000} {
		for _, sets := range []int{0, 1, 2, 10, 999, 1000} {
			for _, speed := range []int{1, 2, 3, 7, 500, 997, 999, 1000} {
				list = append(list, car(from, sets, speed))
			}
		}
	}
	return list
}

func smallCaravans() []caravan {
	var list []caravan
	for from := range 4 {
		for sets := range 4 {
			for speed := 1; speed <= 4; speed++ {
				list = append(list, car(from, sets, speed))
			}
		}
	}
	return list
}

// wrongCaravans have one number that is too small or too great, the others being as small or as great as they may be.
func wrongCaravans() []caravan {
	var list []caravan
	for _, n := range travelNumbers() {
		for _, a := range []caravan{car(n, 0, 1), car(n, 1000, 1000), car(0, n, 1), car(1000, n, 1000), car(0, 0, n), car(1000, 1000, n)} {
			if !isCaravanByHand(a) {
				list = append(list, a)
			}
		}
	}
	return append(list, caravan{}, car(0, 0, 0), car(-1, -1, -1), car(1001, 1001, 1001))
}

func caravanByChance(draw *rand.Rand, most int) caravan {
	return car(draw.IntN(most+1), draw.IntN(most+1), 1+draw.IntN(most))
}

func checkPlace(t *testing.T, a caravan, time amount) {
	t.Helper()
	want, wantOk := amount{}, isCaravanByHand(a) && isTimeByHand(time)
	if wantOk {
		want, wantOk = amountOf(placeByHand(a, ratOf(time)))
	}
	got, ok := impl.PlaceAt(a, time)
	expect(t, fmt.Sprint("PlaceAt ", a, time), got, ok, want, wantOk)
}

// timeByHand needs a caravan and a place that it comes to.
func timeByHand(a caravan, place int) *big.Rat {
	return sum(rat(a.Sets, 1), quotient(rat(place-a.From, 1), rat(a.Speed, 1)))
}

// checkTime holds TimeAt and PlaceAt against each other, too.
func checkTime(t *testing.T, a caravan, place int) {
	t.Helper()
	what := fmt.Sprint("TimeAt ", a, " ", place)
	got, ok := impl.TimeAt(a, place)
	if !isCaravanByHand(a) || place < a.From || place > 2000 {
		expect(t, what, got, ok, amount{}, false)
		return
	}
	want, wantOk := amountOf(timeByHand(a, place))
	expect(t, what, got, ok, want, wantOk)
	back, backOk := impl.PlaceAt(a, got)
	if isTimeByHand(got) {
		expect(t, "PlaceAt of "+what, back, backOk, am(place, 1), true)
	} else {
		expect(t, "PlaceAt of "+what, back, backOk, amount{}, false)
	}
}

// expectPlaceThen wants a caravan at a place, unless the time is none that PlaceAt takes.
func expectPlaceThen(t *testing.T, what string, a caravan, time amount, want *big.Rat) {
	t.Helper()
	got, ok := impl.PlaceAt(a, time)
	if !isTimeByHand(time) {
		expect(t, what, got, ok, amount{}, false)
		return
	}
	place, placeOk := amountOf(want)
	expect(t, what, got, ok, place, placeOk)
}

func checkCatch(t *testing.T, a, b caravan) {
	t.Helper()
	what := fmt.Sprint(a, b)
	by, caught := catchByHand(a, b)
	time, ok := impl.CatchTime(a, b)
	place, placeOk := impl.CatchPlace(a, b)
	if !caught {
		expect(t, "CatchTime "+what, time, ok, amount{}, false)
		expect(t, "CatchPlace "+what, place, placeOk, amount{}, false)
		return
	}
	want, wantOk := amountOf(by)
	expect(t, "CatchTime "+what, time, ok, want, wantOk)
	want, wantOk = amountOf(placeByHand(a, by))
	expect(t, "CatchPlace "+what, place, placeOk, want, wantOk)
	for _, c := range []caravan{a, b} {
		if placeByHand(c, by).Cmp(ratOf(place)) != 0 {
			t.Error("CatchPlace", what, place, "is not the place of", c, "at", time)
		}
		expectPlaceThen(t, fmt.Sprint("PlaceAt of CatchTime ", what, c), c, time, ratOf(place))
	}
	later := rat(max(a.Sets, b.Sets), 1)
	for k := range 8 {
		before := sum(later, product(rat(k, 8), less(by, later)))
		if by.Cmp(later) > 0 && placeByHand(a, before).Cmp(placeByHand(b, before)) == 0 {
			t.Error("CatchTime", what, time, "is not the first one")
		}
	}
}

func checkMeet(t *testing.T, a, b caravan, way int) {
	t.Helper()
	what := fmt.Sprint(a, b, way)
	by, met := meetByHand(a, b, way)
	time, ok := impl.MeetTime(a, b, way)
	place, placeOk := impl.MeetPlace(a, b, way)
	if !met {
		expect(t, "MeetTime "+what, time, ok, amount{}, false)
		expect(t, "MeetPlace "+what, place, placeOk, amount{}, false)
		return
	}
	want, wantOk := amountOf(by)
	expect(t, "MeetTime "+what, time, ok, want, wantOk)
	want, wantOk = amountOf(placeByHand(a, by))
	expect(t, "MeetPlace "+what, place, placeOk, want, wantOk)
	if gapByHand(a, b, way, by).Sign() != 0 {
		t.Error("MeetTime", what, time, "does not bring both to one place")
	}
	expectPlaceThen(t, "PlaceAt of MeetTime "+what, a, time, ratOf(place))
	expectPlaceThen(t, "PlaceAt, of the other one, of MeetTime "+what, b, time, less(rat(way, 1), ratOf(place)))
	for k := range 8 {
		if by.Sign() > 0 && gapByHand(a, b, way, product(rat(k, 8), by)).Sign() <= 0 {
			t.Error("MeetTime", what, time, "is not the first one")
		}
	}
}

// checkOtherWayRound holds what both functions tell of two caravans against what they tell of them in the other order.
func checkOtherWayRound(t *testing.T, a, b caravan, way int) {
	t.Helper()
	what := fmt.Sprint(" the other way round ", a, b, way)
	time, ok := impl.CatchTime(a, b)
	again, againOk := impl.CatchTime(b, a)
	expect(t, "CatchTime"+what, again, againOk, time, ok)
	place, ok := impl.CatchPlace(a, b)
	again, againOk = impl.CatchPlace(b, a)
	expect(t, "CatchPlace"+what, again, againOk, place, ok)
	time, ok = impl.MeetTime(a, b, way)
	again, againOk = impl.MeetTime(b, a, way)
	expect(t, "MeetTime"+what, again, againOk, time, ok)
	if ok {
		here, _ := impl.MeetPlace(a, b, way)
		there, _ := impl.MeetPlace(b, a, way)
		both, bothOk := impl.AddAmounts(here, there)
		expect(t, "both MeetPlace"+what, both, bothOk, am(way, 1), true)
	}
}

// columnByHand tells the time up to the head, and the one back from there to the end.
func columnByHand(length, speed, rider int) (up, back *big.Rat, ok bool) {
	if !areTravelsByHand(length, speed, rider) || rider <= speed {
		return nil, nil, false
	}
	return rat(length, rider-speed), rat(length, rider+speed), true
}

func checkColumn(t *testing.T, length, speed, rider int) {
	t.Helper()
	what := fmt.Sprint(length, " ", speed, " ", rider)
	time, ok := impl.ColumnTime(length, speed, rider)
	way, wayOk := impl.ColumnWay(length, speed, rider)
	up, back, columnOk := columnByHand(length, speed, rider)
	if !columnOk {
		expect(t, "ColumnTime "+what, time, ok, amount{}, false)
		expect(t, "ColumnWay "+what, way, wayOk, amount{}, false)
		return
	}
	goes, rides := rat(speed, 1), rat(rider, 1)
	head := sum(rat(length, 1), product(goes, up))
	end := product(goes, sum(up, back))
	if product(rides, up).Cmp(head) != 0 || less(head, product(rides, back)).Cmp(end) != 0 {
		t.Error("the rider does not come to the head and back to the end", what)
	}
	want, wantOk := amountOf(sum(up, back))
	expect(t, "ColumnTime "+what, time, ok, want, wantOk)
	want, wantOk = amountOf(product(rides, sum(up, back)))
	expect(t, "ColumnWay "+what, way, wayOk, want, wantOk)
}

func falconWayByHand(way, a, b, falcon int) (amount, bool) {
	if !areTravelsByHand(way, a, b, falcon) || falcon < a || falcon < b {
		return amount{}, false
	}
	time, ok := meetByHand(car(0, 0, a), car(0, 0, b), way)
	return someResult(product(rat(falcon, 1), time), ok)
}

// falconTurnByHand lets the falcon fly from where it is to where the other caravan comes to.
func falconTurnByHand(way, a, b, falcon, n int) (amount, bool) {
	if !areTravelsByHand(way, a, b, falcon) || falcon <= a || falcon <= b || n < 1 || n > 5 {
		return amount{}, false
	}
	time, place := rat(0, 1), rat(0, 1)
	for turn := 1; turn <= n; turn++ {
		first := product(rat(a, 1), time)
		second := less(rat(way, 1), product(rat(b, 1), time))
		flown := quotient(less(second, place), rat(falcon+b, 1))
		step := product(rat(falcon, 1), flown)
		if turn%2 == 0 {
			flown = quotient(less(place, first), rat(falcon+a, 1))
			step = product(rat(-falcon, 1), flown)
		}
		time, place = sum(time, flown), sum(place, step)
		gap := less(rat(way, 1), product(rat(a+b, 1), time))
		for _, r := range []*big.Rat{flown, time, gap} {
			if _, ok := amountOf(r); !ok {
				return amount{}, false
			}
		}
	}
	return amountOf(time)
}

// checkFalcon holds all turns against each other, and against the time until both caravans meet.
func checkFalcon(t *testing.T, way, a, b, falcon int) {
	t.Helper()
	what := fmt.Sprint(way, " ", a, " ", b, " ", falcon)
	want, wantOk := falconWayByHand(way, a, b, falcon)
	flown, flownOk := impl.FalconWay(way, a, b, falcon)
	expect(t, "FalconWay "+what, flown, flownOk, want, wantOk)
	if flownOk {
		time, _ := impl.MeetTime(car(0, 0, a), car(0, 0, b), way)
		long, longOk := impl.TimesAmount(time, am(falcon, 1))
		expect(t, "FalconWay and MeetTime "+what, flown, flownOk, long, longOk)
	}
	before := am(0, 1)
	for n := -1; n <= 7; n++ {
		turn, ok := impl.FalconTurn(way, a, b, falcon, n)
		want, wantOk := falconTurnByHand(way, a, b, falcon, n)
		expect(t, fmt.Sprint("FalconTurn ", what, " ", n), turn, ok, want, wantOk)
		if !ok {
			continue
		}
		if order, _ := impl.CompareAmounts(before, turn); order >= 0 {
			t.Error("FalconTurn", what, n, turn, "is no later than", before)
		}
		if ratOf(turn).Cmp(rat(way, a+b)) > 0 {
			t.Error("FalconTurn", what, n, turn, "is later than both caravans meet")
		}
		before = turn
	}
}

// meanByHand adds the times up one by one.
func meanByHand(ways, speeds []int) (amount, bool) {
	if len(ways) < 1 || len(ways) > 8 || len(ways) != len(speeds) || !areTravelsByHand(ways...) || !areTravelsByHand(speeds...) {
		return amount{}, false
	}
	long, time := rat(0, 1), rat(0, 1)
	for i := range ways {
		long = sum(long, rat(ways[i], 1))
		time = sum(time, rat(ways[i], speeds[i]))
		if _, ok := amountOf(time); !ok {
			return amount{}, false
		}
	}
	return amountOf(quotient(long, time))
}

// checkMean gives lists with room behind them that must not be touched.
func checkMean(t *testing.T, ways, speeds []int) bool {
	t.Helper()
	what := fmt.Sprintf("MeanSpeed of %d and %d numbers", len(ways), len(speeds))
	if len(ways) <= 10 && len(speeds) <= 10 {
		what = fmt.Sprint("MeanSpeed ", ways, speeds)
	}
	keptWays, keptSpeeds := append(slices.Clone(ways), -7, -7), append(slices.Clone(speeds), -9, -9)
	roomWays, roomSpeeds := slices.Clone(keptWays), slices.Clone(keptSpeeds)
	want, wantOk := meanByHand(ways, speeds)
	got, ok := impl.MeanSpeed(roomWays[:len(ways)], roomSpeeds[:len(speeds)])
	expect(t, what, got, ok, want, wantOk)
	expectList(t, "the ways of "+what, roomWays, true, keptWays, true)
	expectList(t, "the speeds of "+what, roomSpeeds, true, keptSpeeds, true)
	if ok && (ratOf(got).Cmp(rat(slices.Min(speeds), 1)) < 0 || ratOf(got).Cmp(rat(slices.Max(speeds), 1)) > 0) {
		t.Error(what, got, "is beyond all speeds")
	}
	return ok
}

// passByHand lets the faster column come to the slower one, its head at 0, and looks for the time at which all of it has passed.
func passByHand(length, speed, other, otherSpeed int, same bool) (amount, bool) {
	if !areTravelsByHand(length, speed, other, otherSpeed) {
		return amount{}, false
	}
	if !same {
		speed, otherSpeed = speed+otherSpeed, 0
	} else if speed < otherSpeed {
		length, speed, other, otherSpeed = other, otherSpeed, length, speed
	}
	if speed == otherSpeed {
		return amount{}, false
	}
	left := func(time *big.Rat) *big.Rat {
		head := sum(rat(other, 1), product(rat(otherSpeed, 1), time))
		end := sum(rat(-length, 1), product(rat(speed, 1), time))
		return less(head, end)
	}
	now, next := left(rat(0, 1)), left(rat(1, 1))
	return amountOf(quotient(now, less(now, next)))
}

func checkPass(t *testing.T, length, speed, other, otherSpeed int) {
	t.Helper()
	for _, same := range []bool{false, true} {
		what := fmt.Sprint("PassTime ", length, " ", speed, " ", other, " ", otherSpeed, " ", same)
		want, wantOk := passByHand(length, speed, other, otherSpeed, same)
		got, ok := impl.PassTime(length, speed, other, otherSpeed, same)
		expect(t, what, got, ok, want, wantOk)
		got, ok = impl.PassTime(other, otherSpeed, length, speed, same)
		expect(t, what+" the other way round", got, ok, want, wantOk)
	}
}

func isDailyByHand(way, daily, rest int) bool {
	return areTravelsByHand(way, daily) && rest >= 2 && rest <= 1000
}

// checkDays goes on day by day until the way is done, and some days more.
func checkDays(t *testing.T, way, daily, rest int) {
	t.Helper()
	what := fmt.Sprint(way, " ", daily, " ", rest)
	days, ok := impl.DaysFor(way, daily, rest)
	if !isDailyByHand(way, daily, rest) {
		expect(t, "DaysFor "+what, days, ok, 0, false)
		for _, day := range []int{-1, 0, 1, 7, 1000000, 1000001} {
			place, ok := impl.PlaceOnDay(way, daily, rest, day)
			expect(t, fmt.Sprint("PlaceOnDay ", what, " ", day), place, ok, 0, false)
		}
		return
	}
	place, done := 0, 0
	for day := 0; done == 0 || day < done+2*rest; day++ {
		if day%rest != 0 {
			place = min(place+daily, way)
		}
		if place == way && done == 0 {
			done = day
		}
		got, ok := impl.PlaceOnDay(way, daily, rest, day)
		expect(t, fmt.Sprint("PlaceOnDay ", what, " ", day), got, ok, place, true)
	}
	expect(t, "DaysFor "+what, days, ok, done, true)
	for _, day := range travelNumbers() {
		if place, ok := impl.PlaceOnDay(way, daily, rest, day); ok != (day >= 0 && day <= 1000000) || ok && (place == way) != (day >= days) || !ok && place != 0 {
			t.Error("PlaceOnDay", what, day, place, ok)
		}
	}
}

// checkWater adds camels until they carry all water.
func checkWater(t *testing.T, people, camels, days, each int) {
	t.Helper()
	what := fmt.Sprint("WaterFor ", people, " ", camels, " ", days, " ", each)
	water, lack, ok := impl.WaterFor(people, camels, days, each)
	for _, n := range []int{people, camels, days} {
		if n < 0 || n > 1000 {
			expect(t, what, [2]int{water, lack}, ok, [2]int{}, false)
			return
		}
	}
	if !areTravelsByHand(each) {
		expect(t, what, [2]int{water, lack}, ok, [2]int{}, false)
		return
	}
	more := 0
	for (camels+more)*each < people*days {
		more++
	}
	expect(t, what, [2]int{water, lack}, ok, [2]int{people * days, more}, true)
}

func TestCaravanExamples(t *testing.T) {
	late, early := car(0, 2, 3), car(0, 0, 2)
	place, ok := impl.PlaceAt(late, am(7, 2))
	expect(t, "PlaceAt", place, ok, am(9, 2), true)
	time, ok := impl.CatchTime(late, early)
	expect(t, "CatchTime", time, ok, am(6, 1), true)
	place, ok = impl.CatchPlace(late, early)
	expect(t, "CatchPlace", place, ok, am(12, 1), true)
	time, ok = impl.ColumnTime(4, 2, 6)
	expect(t, "ColumnTime", time, ok, am(3, 2), true)
	way, ok := impl.ColumnWay(4, 2, 6)
	expect(t, "ColumnWay", way, ok, am(9, 1), true)
	days, ok := impl.DaysFor(10, 3, 3)
	expect(t, "DaysFor", days, ok, 5, true)
	for day, want := range []int{0, 3, 6, 6, 9, 10, 10} {
		place, ok := impl.PlaceOnDay(10, 3, 3, day)
		expect(t, fmt.Sprint("PlaceOnDay ", day), place, ok, want, true)
	}
	if impl.MaxTravel != 1000 {
		t.Error("MaxTravel", impl.MaxTravel)
	}
}

func TestIsCaravan(t *testing.T) {
	rows := []struct {
		a    caravan
		want bool
	}{
		{car(0, 0, 1), true}, {car(1000, 1000, 1000), true}, {car(0, 1000, 1), true}, {car(1000, 0, 1), true}, {car(0, 0, 1000), true},
		{car(-1, 0, 1), false}, {car(0, -1, 1), false}, {car(0, 0, 0), false}, {car(0, 0, -1), false}, {caravan{}, false},
		{car(1001, 0, 1), false}, {car(0, 1001, 1), false}, {car(0, 0, 1001), false},
	}
	for _, r := range rows {
		expect(t, fmt.Sprint("IsCaravan ", r.a), impl.IsCaravan(r.a), true, r.want, true)
	}
	for _, from := range travelNumbers() {
		for _, sets := range travelNumbers() {
			for _, speed := range travelNumbers() {
				a := car(from, sets, speed)
				if impl.IsCaravan(a) != isCaravanByHand(a) {
					t.Error("IsCaravan", a, impl.IsCaravan(a))
				}
			}
		}
	}
}

// TestPlaceAtAtTheEdges tells results without the reckoning that the other tests are made with.
func TestPlaceAtAtTheEdges(t *testing.T) {
	rows := []struct {
		a    caravan
		time amount
		want amount
		ok   bool
	}{
		{car(5, 2, 3), am(0, 1), am(5, 1), true},
		{car(5, 2, 3), am(1999, 1000), am(5, 1), true},
		{car(5, 2, 3), am(2, 1), am(5, 1), true},
		{car(5, 2, 3), am(2001, 1000), am(5003, 1000), true},
		{car(5, 2, 3), am(3, 1), am(8, 1), true},
		{car(0, 0, 1), am(0, 1), am(0, 1), true},
		{car(0, 0, 1), am(1, 1000), am(1, 1000), true},
		{car(0, 0, 1), am(1, 1001), amount{}, false},
		{car(0, 0, 1), am(1000, 1001), amount{}, false},
		{car(0, 0, 1), am(1000, 1), am(1000, 1), true},
		{car(0, 0, 1), am(1000001, 1000), amount{}, false},
		{car(0, 0, 1), am(1001, 1), amount{}, false},
		{car(0, 0, 1), am(1000000000, 1), amount{}, false},
		{car(0, 1000, 1), am(1001, 1), amount{}, false},
		{car(1000, 1000, 1000), am(1000, 1), am(1000, 1), true},
		{car(1000, 0, 1000), am(1000, 1), am(1001000, 1), true},
		{car(1000, 0, 997), am(999999, 1000), am(997999003, 1000), true},
		{car(1000, 0, 999), am(999999, 1000), am(999999001, 1000), true},
		{car(0, 0, 1000), am(998999, 999), am(998999000, 999), true},
		{car(0, 0, 1), am(2, 4), amount{}, false},
		{car(0, 0, 1), am(0, 2), amount{}, false},
		{car(0, 0, 1), am(1, 0), amount{}, false},
		{car(0, 0, 1), am(-1, 2), amount{}, false},
		{car(0, 0, 1), amount{}, amount{}, false},
		{car(-1, 0, 1), am(1, 1), amount{}, false},
		{car(0, 0, 1001), am(1, 1), amount{}, false},
	}
	for _, r := range rows {
		got, ok := impl.PlaceAt(r.a, r.time)
		expect(t, fmt.Sprint("PlaceAt ", r.a, r.time), got, ok, r.want, r.ok)
		checkPlace(t, r.a, r.time)
	}
}

func TestTimeAtAtTheEdges(t *testing.T) {
	rows := []struct {
		a     caravan
		place int
		want  amount
		ok    bool
	}{
		{car(5, 2, 3), 5, am(2, 1), true},
		{car(5, 2, 3), 4, amount{}, false},
		{car(5, 2, 3), 0, amount{}, false},
		{car(5, 2, 3), 6, am(7, 3), true},
		{car(5, 2, 3), 2000, am(667, 1), true},
		{car(5, 2, 3), 2001, amount{}, false},
		{car(0, 0, 1), 0, am(0, 1), true},
		{car(0, 0, 1), -1, amount{}, false},
		{car(0, 0, 7), 2000, am(2000, 7), true},
		{car(0, 0, 1), 1001, am(1001, 1), true},
		{car(0, 1000, 1), 2000, am(3000, 1), true},
		{car(0, 1000, 997), 2000, am(999000, 997), true},
		{car(0, 1000, 1000), 1, am(1000001, 1000), true},
		{car(1000, 1000, 1000), 1000, am(1000, 1), true},
		{car(1000, 0, 1), 999, amount{}, false},
		{car(1001, 0, 1), 1500, amount{}, false},
		{car(0, 1001, 1), 1, amount{}, false},
		{car(0, 0, 0), 0, amount{}, false},
	}
	for _, r := range rows {
		got, ok := impl.TimeAt(r.a, r.place)
		expect(t, fmt.Sprint("TimeAt ", r.a, " ", r.place), got, ok, r.want, r.ok)
		checkTime(t, r.a, r.place)
	}
}

func TestCatchesAtTheEdges(t *testing.T) {
	rows := []struct {
		a, b        caravan
		time, place amount
		ok          bool
	}{
		// They set out together, at one place, or with one speed.
		{car(0, 0, 1), car(0, 0, 1), am(0, 1), am(0, 1), true},
		{car(7, 3, 5), car(7, 3, 5), am(3, 1), am(7, 1), true},
		{car(7, 3, 5), car(7, 3, 2), am(3, 1), am(7, 1), true},
		{car(0, 0, 5), car(1, 0, 2), am(1, 3), am(5, 3), true},
		{car(0, 4, 5), car(1, 4, 2), am(13, 3), am(5, 3), true},
		{car(0, 0, 2), car(1, 0, 2), amount{}, amount{}, false},
		{car(7, 3, 5), car(7, 4, 5), amount{}, amount{}, false},
		{car(7, 3, 5), car(7, 4, 6), am(9, 1), am(37, 1), true},
		{car(7, 3, 5), car(7, 4, 4), amount{}, amount{}, false},
		// The later one sets out just when the other one comes by.
		{car(0, 0, 2), car(4, 2, 2), am(2, 1), am(4, 1), true},
		{car(0, 0, 3), car(6, 2, 1), am(2, 1), am(6, 1), true},
		{car(0, 0, 1), car(2, 2, 9), am(2, 1), am(2, 1), true},
		{car(0, 0, 2), car(5, 2, 2), amount{}, amount{}, false},
		{car(0, 0, 2), car(3, 2, 2), amount{}, amount{}, false},
		// The earlier one has come by before: this counts for nothing.
		{car(0, 0, 3), car(5, 2, 1), amount{}, amount{}, false},
		{car(0, 0, 3), car(5, 2, 3), amount{}, amount{}, false},
		{car(0, 0, 3), car(5, 2, 4), am(3, 1), am(9, 1), true},
		{car(0, 2, 3), car(0, 0, 2), am(6, 1), am(12, 1), true},
		{car(0, 2, 2), car(0, 0, 3), amount{}, amount{}, false},
		{car(5, 9, 1), car(4, 0, 9), amount{}, amount{}, false},
		// Times and places are as great as can be.
		{car(0, 1000, 1000), car(1000, 0, 999), am(1001000, 1), am(1000000000, 1), true},
		{car(0, 1000, 1000), car(999, 0, 997), am(1000999, 3), am(997999000, 3), true},
		{car(0, 1000, 2), car(1000, 0, 1), am(3000, 1), am(4000, 1), true},
		{car(0, 1000, 1000), car(1000, 1000, 1), am(1000000, 999), am(1000000, 999), true},
		{car(1000, 1000, 1000), car(1000, 1000, 1000), am(1000, 1), am(1000, 1), true},
		{car(-1, 0, 1), car(0, 0, 1), amount{}, amount{}, false},
		{car(0, 0, 1001), car(0, 0, 1), amount{}, amount{}, false},
		{car(0, 1001, 1), car(0, 1001, 1), amount{}, amount{}, false},
	}
	for _, r := range rows {
		for _, pair := range [][2]caravan{{r.a, r.b}, {r.b, r.a}} {
			time, ok := impl.CatchTime(pair[0], pair[1])
			expect(t, fmt.Sprint("CatchTime ", pair), time, ok, r.time, r.ok)
			place, ok := impl.CatchPlace(pair[0], pair[1])
			expect(t, fmt.Sprint("CatchPlace ", pair), place, ok, r.place, r.ok)
			checkCatch(t, pair[0], pair[1])
		}
	}
}

func TestMeetingsAtTheEdges(t *testing.T) {
	rows := []struct {
		a, b        caravan
		way         int
		time, place amount
		ok          bool
	}{
		{car(0, 0, 1), car(0, 0, 1), 1, am(1, 2), am(1, 2), true},
		{car(0, 0, 999), car(0, 0, 1000), 1, am(1, 1999), am(999, 1999), true},
		// From of both together are just the way, one more, and one less.
		{car(3, 5, 1), car(4, 9, 2), 7, am(0, 1), am(3, 1), true},
		{car(3, 5, 1), car(4, 9, 2), 6, amount{}, amount{}, false},
		{car(3, 5, 1), car(4, 9, 2), 8, am(6, 1), am(4, 1), true},
		{car(3, 0, 1), car(4, 0, 2), 7, am(0, 1), am(3, 1), true},
		{car(1000, 7, 1), car(0, 8, 1), 1000, am(0, 1), am(1000, 1), true},
		{car(0, 7, 1), car(1000, 8, 1), 1000, am(0, 1), am(0, 1), true},
		{car(1000, 0, 1), car(1, 0, 1), 1000, amount{}, amount{}, false},
		{car(1000, 0, 1), car(1000, 0, 1), 1000, amount{}, amount{}, false},
		// b is waiting still, sets out just then, and has set out.
		{car(0, 0, 2), car(0, 5, 3), 9, am(9, 2), am(9, 1), true},
		{car(0, 0, 2), car(0, 5, 3), 10, am(5, 1), am(10, 1), true},
		{car(0, 0, 2), car(0, 5, 3), 11, am(26, 5), am(52, 5), true},
		// a is waiting still, sets out just then, and has set out.
		{car(0, 5, 3), car(0, 0, 2), 9, am(9, 2), am(0, 1), true},
		{car(0, 5, 3), car(0, 0, 2), 10, am(5, 1), am(0, 1), true},
		{car(0, 5, 3), car(0, 0, 2), 11, am(26, 5), am(3, 5), true},
		{car(2, 5, 3), car(1, 1, 2), 5, am(2, 1), am(2, 1), true},
		// Times are above 1000.
		{car(0, 1000, 1), car(0, 1000, 1), 1000, am(1500, 1), am(500, 1), true},
		{car(0, 1000, 1), car(0, 1000, 999), 1000, am(1001, 1), am(1, 1), true},
		{car(0, 999, 1), car(0, 1000, 1), 1000, am(2999, 2), am(1001, 2), true},
		{car(0, 1000, 997), car(0, 1000, 1000), 1000, am(1998000, 1997), am(997000, 1997), true},
		{car(0, 0, 1), car(0, 0, 1), 0, amount{}, amount{}, false},
		{car(0, 0, 1), car(0, 0, 1), -1, amount{}, amount{}, false},
		{car(0, 0, 1), car(0, 0, 1), 1001, amount{}, amount{}, false},
		{car(-1, 0, 1), car(0, 0, 1), 5, amount{}, amount{}, false},
		{car(0, 0, 1), car(0, 1001, 1), 5, amount{}, amount{}, false},
		{car(0, 0, 0), car(5, 0, 1), 5, amount{}, amount{}, false},
	}
	for _, r := range rows {
		what := fmt.Sprint(r.a, r.b, r.way)
		time, ok := impl.MeetTime(r.a, r.b, r.way)
		expect(t, "MeetTime "+what, time, ok, r.time, r.ok)
		place, ok := impl.MeetPlace(r.a, r.b, r.way)
		expect(t, "MeetPlace "+what, place, ok, r.place, r.ok)
		checkMeet(t, r.a, r.b, r.way)
		checkOtherWayRound(t, r.a, r.b, r.way)
	}
}

func TestColumnsAtTheEdges(t *testing.T) {
	rows := []struct {
		length, speed, rider int
		time                 amount
		timeOk               bool
		way                  amount
		wayOk                bool
	}{
		{1, 1, 2, am(4, 3), true, am(8, 3), true},
		{4, 6, 6, amount{}, false, amount{}, false},
		{4, 7, 6, amount{}, false, amount{}, false},
		{4, 5, 6, am(48, 11), true, am(288, 11), true},
		{1000, 1000, 1000, amount{}, false, amount{}, false},
		{1000, 1, 2, am(4000, 3), true, am(8000, 3), true},
		{1, 999, 1000, am(2000, 1999), true, am(2000000, 1999), true},
		{500, 999, 1000, am(1000000, 1999), true, am(1000000000, 1999), true},
		// The way is no amount, though the time is one.
		{501, 999, 1000, am(1002000, 1999), true, amount{}, false},
		{1000, 999, 1000, am(2000000, 1999), true, amount{}, false},
		{0, 1, 2, amount{}, false, amount{}, false},
		{1001, 1, 2, amount{}, false, amount{}, false},
		{1, 0, 2, amount{}, false, amount{}, false},
		{1, -1, 2, amount{}, false, amount{}, false},
		{1, 1, 1001, amount{}, false, amount{}, false},
		{1, 1001, 1002, amount{}, false, amount{}, false},
	}
	for _, r := range rows {
		what := fmt.Sprint(r.length, " ", r.speed, " ", r.rider)
		time, ok := impl.ColumnTime(r.length, r.speed, r.rider)
		expect(t, "ColumnTime "+what, time, ok, r.time, r.timeOk)
		way, ok := impl.ColumnWay(r.length, r.speed, r.rider)
		expect(t, "ColumnWay "+what, way, ok, r.way, r.wayOk)
		checkColumn(t, r.length, r.speed, r.rider)
	}
}

func TestFalconWaysAtTheEdges(t *testing.T) {
	rows := []struct {
		way, a, b, falcon int
		want              amount
		ok                bool
	}{
		{100, 20, 30, 50, am(100, 1), true},
		{7, 2, 3, 4, am(28, 5), true},
		{10, 2, 3, 3, am(6, 1), true},
		{10, 3, 2, 3, am(6, 1), true},
		{7, 5, 5, 5, am(7, 2), true},
		{10, 2, 3, 2, amount{}, false},
		{10, 3, 2, 2, amount{}, false},
		{10, 3, 3, 2, amount{}, false},
		{1, 1000, 1000, 1000, am(1, 2), true},
		{1000, 1, 1, 1000, am(500000, 1), true},
		{1, 1, 1, 1, am(1, 2), true},
		{0, 1, 1, 1, amount{}, false},
		{1001, 1, 1, 1, amount{}, false},
		{1, 0, 1, 1, amount{}, false},
		{1, 1, 0, 1, amount{}, false},
		{1, 1, 1, 1001, amount{}, false},
		{1, 1001, 1, 1001, amount{}, false},
		{1, 1, 1001, 1001, amount{}, false},
	}
	for _, r := range rows {
		got, ok := impl.FalconWay(r.way, r.a, r.b, r.falcon)
		expect(t, fmt.Sprint("FalconWay ", r), got, ok, r.want, r.ok)
		checkFalcon(t, r.way, r.a, r.b, r.falcon)
	}
}

func TestFalconTurnsAtTheEdges(t *testing.T) {
	rows := []struct {
		way, a, b, falcon, n int
		want                 amount
		ok                   bool
	}{
		{10, 2, 3, 7, 0, amount{}, false},
		{10, 2, 3, 7, 1, am(1, 1), true},
		{10, 2, 3, 7, 2, am(14, 9), true},
		{10, 2, 3, 7, 3, am(16, 9), true},
		{10, 2, 3, 7, 4, am(154, 81), true},
		{10, 2, 3, 7, 5, am(158, 81), true},
		{10, 2, 3, 7, 6, amount{}, false},
		{10, 2, 3, 7, -1, amount{}, false},
		{10, 3, 2, 7, 1, am(10, 9), true},
		// The falcon is just as fast as one of both, or slower.
		{10, 2, 3, 3, 1, amount{}, false},
		{10, 3, 2, 3, 1, amount{}, false},
		{10, 2, 3, 2, 1, amount{}, false},
		{10, 3, 2, 2, 1, amount{}, false},
		{10, 3, 3, 3, 1, amount{}, false},
		{10, 2, 3, 4, 1, am(10, 7), true},
		{10, 3, 2, 4, 1, am(5, 3), true},
		{445, 95, 13, 454, 2, am(404060, 256383), true},
		// Only the way between both caravans then is no amount: 2810250205 / 13303429, 7078955645 / 45319824, 3547897200 / 25160213.
		{445, 95, 13, 454, 3, amount{}, false},
		{180, 2, 26, 790, 4, amount{}, false},
		{288, 21, 28, 343, 5, amount{}, false},
		// Only the time since the turn before is no amount: 111807 / 1223682532, 10335861 / 1596941750, 1647243 / 1147067800.
		{41, 763, 478, 781, 3, amount{}, false},
		{621, 763, 92, 962, 4, amount{}, false},
		{972, 568, 560, 872, 5, amount{}, false},
		// Only the time itself is no amount: 322045839 / 1902724993, 1580391284 / 2182691315, 3317639375 / 659233652.
		{207, 623, 586, 963, 3, amount{}, false},
		{963, 408, 922, 933, 4, amount{}, false},
		{625, 99, 25, 129, 5, amount{}, false},
		// Only the time of the turn before is no amount, that of this one being 475286510 / 287311647 and 188348476 / 112788577.
		{986, 197, 352, 901, 4, amount{}, false},
		{892, 366, 145, 877, 5, amount{}, false},
		{1000, 1, 1, 1000, 1, am(1000, 1001), true},
		{0, 2, 3, 7, 1, amount{}, false},
		{1001, 2, 3, 7, 1, amount{}, false},
		{10, 0, 3, 7, 1, amount{}, false},
		{10, 2, 0, 7, 1, amount{}, false},
		{10, 2, 3, 1001, 1, amount{}, false},
	}
	for _, r := range rows {
		got, ok := impl.FalconTurn(r.way, r.a, r.b, r.falcon, r.n)
		expect(t, fmt.Sprint("FalconTurn ", r), got, ok, r.want, r.ok)
		checkFalcon(t, r.way, r.a, r.b, r.falcon)
	}
}

func TestMeanSpeedsAtTheEdges(t *testing.T) {
	ones := slices.Repeat([]int{1}, 9)
	rows := []struct {
		ways, speeds []int
		want         amount
		ok           bool
	}{
		{nil, nil, amount{}, false},
		{[]int{}, []int{}, amount{}, false},
		{[]int{7}, []int{3}, am(3, 1), true},
		{[]int{1000}, []int{1000}, am(1000, 1), true},
		{[]int{1}, []int{1000}, am(1000, 1), true},
		{[]int{1, 1}, []int{1, 2}, am(4, 3), true},
		{[]int{1, 2}, []int{1, 2}, am(3, 2), true},
		{[]int{60, 60}, []int{20, 30}, am(24, 1), true},
		{ones[:8], ones[:8], am(1, 1), true},
		{ones, ones, amount{}, false},
		{numbers(1, 8), numbers(1, 8), am(9, 2), true},
		{ones[:8], numbers(1, 8), am(2240, 761), true},
		{slices.Repeat([]int{1000}, 8), ones[:8], am(1, 1), true},
		{[]int{1}, nil, amount{}, false},
		{nil, []int{1}, amount{}, false},
		{[]int{1, 2}, []int{1}, amount{}, false},
		{[]int{1}, []int{1, 2}, amount{}, false},
		{ones[:8], ones, amount{}, false},
		{ones, ones[:8], amount{}, false},
		{[]int{0}, []int{1}, amount{}, false},
		{[]int{1}, []int{0}, amount{}, false},
		{[]int{1001}, []int{1}, amount{}, false},
		{[]int{1}, []int{1001}, amount{}, false},
		{[]int{5, 5, -1}, []int{5, 5, 5}, amount{}, false},
		{[]int{5, 5, 5}, []int{5, 5, 1001}, amount{}, false},
		{slices.Repeat([]int{1}, 100000), slices.Repeat([]int{1}, 100000), amount{}, false},
		// The time of the first four parts is no amount, though that of all of them is: with others first, all are.
		{[]int{1, 1, 1, 1, 996, 990, 982, 976}, []int{997, 991, 983, 977, 997, 991, 983, 977}, amount{}, false},
		{[]int{1, 996, 1, 990, 1, 982, 1, 976}, []int{997, 997, 991, 991, 983, 983, 977, 977}, am(987, 1), true},
		// The times of all first parts are amounts only from the first one on, or only from the last one on.
		{[]int{1, 1, 996, 990, 1, 1}, []int{997, 991, 997, 991, 983, 977}, am(955589045, 961371), true},
		{[]int{1, 1, 990, 996, 1, 1}, []int{977, 983, 991, 997, 991, 997}, amount{}, false},
		// The times of all first parts are amounts, but the mean speed is none.
		{[]int{1, 1, 1}, []int{997, 991, 983}, amount{}, false},
		{[]int{1, 1}, []int{997, 991}, am(988027, 994), true},
		{[]int{1, 1, 1, 1}, []int{997, 991, 983, 977}, amount{}, false},
	}
	for _, r := range rows {
		got, ok := impl.MeanSpeed(r.ways, r.speeds)
		what := fmt.Sprintf("MeanSpeed of %d and %d, %.10v %.10v", len(r.ways), len(r.speeds), r.ways[:min(8, len(r.ways))], r.speeds[:min(8, len(r.speeds))])
		expect(t, what, got, ok, r.want, r.ok)
		checkMean(t, r.ways, r.speeds)
	}
}

func TestPassTimesAtTheEdges(t *testing.T) {
	rows := []struct {
		length, speed, other, otherSpeed int
		same                             bool
		want                             amount
		ok                               bool
	}{
		{3, 5, 4, 2, true, am(7, 3), true},
		{3, 5, 4, 2, false, am(1, 1), true},
		{3, 2, 4, 5, true, am(7, 3), true},
		{3, 2, 4, 5, false, am(1, 1), true},
		{3, 5, 4, 5, true, amount{}, false},
		{3, 5, 4, 5, false, am(7, 10), true},
		{1, 1, 1, 1, false, am(1, 1), true},
		{1, 1, 1, 1, true, amount{}, false},
		{1000, 1000, 1000, 1000, true, amount{}, false},
		{1000, 1000, 1000, 1000, false, am(1, 1), true},
		{1000, 1000, 1000, 999, true, am(2000, 1), true},
		{1000, 1000, 1000, 999, false, am(2000, 1999), true},
		{1000, 1, 1000, 1, false, am(1000, 1), true},
		{0, 5, 4, 2, false, amount{}, false},
		{3, 0, 4, 2, false, amount{}, false},
		{3, 5, 0, 2, false, amount{}, false},
		{3, 5, 4, 0, false, amount{}, false},
		{3, 5, 4, 0, true, amount{}, false},
		{1001, 5, 4, 2, true, amount{}, false},
		{3, 1001, 4, 2, true, amount{}, false},
		{3, 5, 1001, 2, true, amount{}, false},
		{3, 5, 4, 1001, true, amount{}, false},
	}
	for _, r := range rows {
		got, ok := impl.PassTime(r.length, r.speed, r.other, r.otherSpeed, r.same)
		expect(t, fmt.Sprint("PassTime ", r), got, ok, r.want, r.ok)
		checkPass(t, r.length, r.speed, r.other, r.otherSpeed)
	}
}

func TestDaysAtTheEdges(t *testing.T) {
	rows := []struct {
		way, daily, rest int
		want             int
		ok               bool
	}{
		{1, 1, 2, 1, true}, {2, 1, 2, 3, true}, {3, 1, 2, 5, true}, {1000, 1, 2, 1999, true},
		// The way is done on the day before a rest, and on the one behind it.
		{6, 3, 3, 2, true}, {7, 3, 3, 4, true}, {12, 3, 3, 5, true}, {13, 3, 3, 7, true},
		{999, 1, 1000, 999, true}, {1000, 1, 1000, 1001, true}, {1000, 1, 999, 1001, true}, {998, 1, 999, 998, true},
		{10, 10, 2, 1, true}, {10, 9, 2, 3, true}, {10, 1000, 2, 1, true}, {1000, 1000, 1000, 1, true}, {1, 1000, 1000, 1, true},
		{10, 3, 1, 0, false}, {10, 3, 0, 0, false}, {10, 3, -2, 0, false}, {10, 3, 1001, 0, false}, {10, 3, 1000, 4, true}, {10, 3, 2, 7, true},
		{0, 3, 3, 0, false}, {-1, 3, 3, 0, false}, {1001, 3, 3, 0, false}, {10, 0, 3, 0, false}, {10, -3, 3, 0, false}, {10, 1001, 3, 0, false},
	}
	for _, r := range rows {
		got, ok := impl.DaysFor(r.way, r.daily, r.rest)
		expect(t, fmt.Sprint("DaysFor ", r), got, ok, r.want, r.ok)
		checkDays(t, r.way, r.daily, r.rest)
	}
}

func TestPlaceOnDayAtTheEdges(t *testing.T) {
	rows := []struct {
		way, daily, rest, day int
		want                  int
		ok                    bool
	}{
		{10, 3, 3, 0, 0, true}, {10, 3, 3, -1, 0, false}, {10, 3, 3, 1000000, 10, true}, {10, 3, 3, 1000001, 0, false},
		{1000, 1000, 1000, 1000000, 1000, true}, {1000, 1000, 2, 0, 0, true}, {1000, 1, 2, 1998, 999, true}, {1000, 1, 2, 1999, 1000, true},
		{10, 3, 2, 1, 3, true}, {10, 3, 2, 2, 3, true}, {10, 3, 2, 3, 6, true}, {10, 3, 2, 4, 6, true},
		{1000, 1, 1000, 999, 999, true}, {1000, 1, 1000, 1000, 999, true}, {1000, 1, 1000, 1001, 1000, true},
		{10, 3, 1, 5, 0, false}, {10, 3, 1001, 5, 0, false}, {0, 3, 3, 5, 0, false}, {1001, 3, 3, 5, 0, false}, {10, 0, 3, 5, 0, false}, {10, 1001, 3, 5, 0, false},
	}
	for _, r := range rows {
		got, ok := impl.PlaceOnDay(r.way, r.daily, r.rest, r.day)
		expect(t, fmt.Sprint("PlaceOnDay ", r), got, ok, r.want, r.ok)
	}
}

func TestWaterAtTheEdges(t *testing.T) {
	rows := []struct {
		people, camels, days, each int
		water, lack                int
		ok                         bool
	}{
		{5, 2, 6, 10, 30, 1, true},
		{5, 3, 6, 10, 30, 0, true}, // just enough
		{5, 4, 6, 10, 30, 0, true},
		{31, 3, 1, 10, 31, 1, true},
		{29, 3, 1, 10, 29, 0, true},
		{0, 0, 6, 10, 0, 0, true},
		{0, 7, 6, 10, 0, 0, true},
		{5, 0, 6, 10, 30, 3, true},
		{5, 0, 0, 10, 0, 0, true},
		{0, 0, 0, 1, 0, 0, true},
		{1000, 1000, 1000, 1000, 1000000, 0, true},
		{1000, 999, 1000, 1000, 1000000, 1, true},
		{1000, 0, 1000, 1, 1000000, 1000000, true},
		{1000, 1000, 1000, 1, 1000000, 999000, true},
		{-1, 0, 6, 10, 0, 0, false},
		{1001, 0, 6, 10, 0, 0, false},
		{5, -1, 6, 10, 0, 0, false},
		{5, 1001, 6, 10, 0, 0, false},
		{5, 0, -1, 10, 0, 0, false},
		{5, 0, 1001, 10, 0, 0, false},
		{5, 0, 6, 0, 0, 0, false},
		{5, 0, 6, -1, 0, 0, false},
		{5, 0, 6, 1001, 0, 0, false},
	}
	for _, r := range rows {
		water, lack, ok := impl.WaterFor(r.people, r.camels, r.days, r.each)
		expect(t, fmt.Sprint("WaterFor ", r), [2]int{water, lack}, ok, [2]int{r.water, r.lack}, r.ok)
		checkWater(t, r.people, r.camels, r.days, r.each)
	}
}

func TestPlacesAndTimes(t *testing.T) {
	draw := rand.New(rand.NewPCG(8, 1))
	for _, a := range someCaravans() {
		for range 60 {
			den := 1 + draw.IntN(1001)
			time, _ := amountOf(rat(draw.IntN(1001*den), den))
			checkPlace(t, a, time)
			checkTime(t, a, draw.IntN(2002))
		}
		for _, near := range []int{-1, 0, 1, 999, 1000, 1001, 1999, 2000, 2001} {
			checkPlace(t, a, am(near, 1))
			checkPlace(t, a, am(a.Sets+near, 1))
			checkPlace(t, a, am(1000*a.Sets+near, 1000))
			checkTime(t, a, near)
			checkTime(t, a, a.From+near)
		}
	}
}

// TestTimesOfPlaces goes from times to places and back: each whole place is come to when TimeAt tells, and not before.
func TestTimesOfPlaces(t *testing.T) {
	undone := 0
	for _, a := range someCaravans() {
		for _, time := range travelTimes() {
			place, ok := impl.PlaceAt(a, time)
			if !ok || place.Den != 1 || place.Num > 2000 || ratOf(time).Cmp(rat(a.Sets, 1)) < 0 {
				continue
			}
			undone++
			back, ok := impl.TimeAt(a, place.Num)
			expect(t, fmt.Sprint("TimeAt of PlaceAt ", a, time), back, ok, time, true)
		}
	}
	if undone < 1000 {
		t.Error("only", undone, "times have been undone")
	}
}

func TestSmallCaravans(t *testing.T) {
	for _, a := range smallCaravans() {
		for _, b := range smallCaravans() {
			checkCatch(t, a, b)
			for _, way := range []int{1, 3, 5, 6, 7, 12} {
				checkMeet(t, a, b, way)
				checkOtherWayRound(t, a, b, way)
			}
		}
	}
}

func TestCaravansByChance(t *testing.T) {
	draw := rand.New(rand.NewPCG(8, 2))
	great := someCaravans()
	for range 20000 {
		most := []int{5, 30, 200, 1000}[draw.IntN(4)]
		a, b := caravanByChance(draw, most), caravanByChance(draw, most)
		if draw.IntN(3) == 0 {
			a, b = great[draw.IntN(len(great))], great[draw.IntN(len(great))]
		}
		way := 1 + draw.IntN(1000)
		checkCatch(t, a, b)
		checkMeet(t, a, b, way)
		checkMeet(t, a, b, a.From+b.From+draw.IntN(3)-1)
		checkOtherWayRound(t, a, b, way)
	}
}

// TestMeetingsAreTheSameAgain makes the same calls many times, as a choice among times that wait must not be seen.
func TestMeetingsAreTheSameAgain(t *testing.T) {
	for range 300 {
		checkMeet(t, car(0, 3, 2), car(1, 5, 7), 40)
		checkMeet(t, car(0, 3, 2), car(1, 50, 7), 40)
		checkMeet(t, car(0, 60, 2), car(1, 5, 7), 40)
	}
}

func TestColumnsAndFalconsByChance(t *testing.T) {
	draw := rand.New(rand.NewPCG(8, 3))
	for range 8000 {
		most := []int{5, 30, 200, 1000}[draw.IntN(4)]
		number := func() int { return 1 + draw.IntN(most) }
		checkColumn(t, 1+draw.IntN(1000), number(), number())
		checkFalcon(t, 1+draw.IntN(1000), number(), number(), 1+draw.IntN(1000))
		checkFalcon(t, number(), number(), number(), number())
		checkPass(t, number(), number(), number(), number())
	}
}

func TestMeanSpeedsByChance(t *testing.T) {
	draw := rand.New(rand.NewPCG(8, 4))
	made := 0
	for range 20000 {
		var ways, speeds []int
		most := []int{5, 30, 1000}[draw.IntN(3)]
		for range draw.IntN(10) {
			ways, speeds = append(ways, 1+draw.IntN(1000)), append(speeds, 1+draw.IntN(most))
		}
		if checkMean(t, ways, speeds) {
			made++
		}
	}
	if made < 5000 || made > 19000 {
		t.Error(made, "of 20000 mean speeds have been made")
	}
}

func TestDaysAndWaterByChance(t *testing.T) {
	draw := rand.New(rand.NewPCG(8, 5))
	for way := 1; way <= 12; way++ {
		for daily := 1; daily <= 13; daily++ {
			for rest := 2; rest <= 14; rest++ {
				checkDays(t, way, daily, rest)
			}
		}
	}
	for range 300 {
		checkDays(t, 1+draw.IntN(1000), 1+draw.IntN(20), 2+draw.IntN(50))
		checkDays(t, 1+draw.IntN(1000), 1+draw.IntN(1000), 2+draw.IntN(999))
	}
	for range 3000 {
		most := []int{5, 30, 1000}[draw.IntN(3)]
		number := func() int { return draw.IntN(most + 1) }
		checkWater(t, number(), number(), number(), 1+number())
	}
}

// TestHostileCaravans calls all functions of caravans with such as are none, and with hostile numbers and amounts.
func TestHostileCaravans(t *testing.T) {
	ints := travelNumbers()
	good := []caravan{car(0, 0, 1), car(3, 7, 5), car(1000, 1000, 1000)}
	for _, a := range wrongCaravans() {
		for _, time := range []amount{am(0, 1), am(1, 2), am(1000, 1), am(1, 0), amount{}} {
			checkPlace(t, a, time)
		}
		for _, n := range ints {
			checkTime(t, a, n)
		}
		for _, b := range append(good, a, caravan{}) {
			checkCatch(t, a, b)
			checkCatch(t, b, a)
			for _, way := range []int{-1, 0, 1, 1000, 1001} {
				checkMeet(t, a, b, way)
				checkMeet(t, b, a, way)
			}
		}
	}
	for _, a := range good {
		for _, time := range travelTimes() {
			checkPlace(t, a, time)
		}
		for _, n := range ints {
			checkTime(t, a, n)
			checkMeet(t, a, good[0], n)
			checkMeet(t, good[0], a, n)
		}
	}
}

// TestHostileTravels calls all other functions with hostile numbers, two of them at once.
func TestHostileTravels(t *testing.T) {
	ints := travelNumbers()
	for _, n := range ints {
		for _, m := range ints {
			checkColumn(t, n, m, 7)
			checkColumn(t, n, 3, m)
			checkColumn(t, 4, n, m)
			checkFalcon(t, n, m, 3, 5)
			checkFalcon(t, n, 2, 3, m)
			checkFalcon(t, 10, n, m, 1000)
			checkFalcon(t, 10, n, 3, m)
			checkFalcon(t, 10, 2, n, m)
			checkPass(t, n, m, 4, 2)
			checkPass(t, n, 5, m, 2)
			checkPass(t, n, 5, 4, m)
			checkPass(t, 3, n, 4, m)
			checkMean(t, []int{n, 3}, []int{m, 5})
			checkMean(t, []int{3, n}, []int{5, m})
			checkWater(t, n, m, 6, 10)
			checkWater(t, n, 3, m, 10)
			checkWater(t, 5, n, 6, m)
			checkWater(t, 5, 3, n, m)
		}
		turn, ok := impl.FalconTurn(10, 2, 3, 7, n)
		want, wantOk := falconTurnByHand(10, 2, 3, 7, n)
		expect(t, fmt.Sprint("FalconTurn ", n), turn, ok, want, wantOk)
		for _, m := range []int{-1, 0, 1, 2, 7, 999, 1000, 1001} {
			checkDays(t, n, m, 3)
			checkDays(t, m, n, 3)
			checkDays(t, 100, n, m)
			checkDays(t, 100, m, n)
		}
	}
}

// TestLongListsOfWays gives lists of all lengths, also two of different ones.
func TestLongListsOfWays(t *testing.T) {
	for n := range 12 {
		for m := range 12 {
			checkMean(t, numbers(1, n), numbers(3, m+2))
		}
	}
	long := slices.Repeat([]int{1}, 1000000)
	checkMean(t, long, long)
	checkMean(t, long, long[:8])
	checkMean(t, long[:8], long)
	checkMean(t, nil, long)
}
