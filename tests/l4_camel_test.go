package tests

import (
	"fmt"
	"math/big"
	"math/rand/v2"
	"slices"
	"testing"

	"loop.example/g01258/impl"
)

type camel = impl.Camel
type market = impl.Market

func cam(load, eats int) camel {
	return camel{Load: load, Eats: eats}
}

func mar(at, price amount) market {
	return market{At: at, Price: price}
}

func isCamelByHand(c camel) bool {
	return c.Load >= 1 && c.Load <= 12 && c.Eats >= 1 && c.Eats <= 12
}

func isPlaceByHand(a amount) bool {
	return isAmountByHand(a) && a.Den <= 1000000
}

func isMarketByHand(m market) bool {
	return isPlaceByHand(m.At) && isAmountByHand(m.Price)
}

func areGoodsByHand(c camel, goods amount) bool {
	return isCamelByHand(c) && isAmountByHand(goods) && goods.Den <= 12 && ratOf(goods).Cmp(loadsOf(c, 6)) <= 0
}

func loadsOf(c camel, loads int) *big.Rat {
	return big.NewRat(int64(loads*c.Load), 1)
}

// loadsBehind tells how many whole loads there are behind the one in use.
func loadsBehind(c camel, goods *big.Rat) int {
	k := 0
	for goods.Cmp(loadsOf(c, k+1)) > 0 {
		k++
	}
	return k
}

func rateByHand(c camel, loads int) *big.Rat {
	return big.NewRat(int64(loads+loads+1)*int64(c.Eats), 1)
}

// leftByHand goes forth from one place where the rate changes to the next one.
func leftByHand(c camel, goods, way *big.Rat) (*big.Rat, bool) {
	left, rest := new(big.Rat).Set(goods), new(big.Rat).Set(way)
	for rest.Sign() > 0 {
		if left.Sign() == 0 {
			return nil, false
		}
		k := loadsBehind(c, left)
		part := new(big.Rat).Sub(left, loadsOf(c, k))
		part = lesser(rest, part.Quo(part, rateByHand(c, k)))
		rest.Sub(rest, part)
		left.Sub(left, part.Mul(part, rateByHand(c, k)))
	}
	return left, true
}

// goodsByHand goes back from the end of the way. It fails for more than 6 loads.
func goodsByHand(c camel, way, left *big.Rat) (*big.Rat, bool) {
	goods, rest := new(big.Rat).Set(left), new(big.Rat).Set(way)
	for k := 0; rest.Sign() > 0; k++ {
		if k == 6 {
			return nil, false
		}
		if goods.Cmp(loadsOf(c, k+1)) >= 0 {
			continue
		}
		part := new(big.Rat).Sub(loadsOf(c, k+1), goods)
		part = lesser(rest, part.Quo(part, rateByHand(c, k)))
		rest.Sub(rest, part)
		goods.Add(goods, part.Mul(part, rateByHand(c, k)))
	}
	return goods, true
}

// wayByHand adds up the parts on which goods are eaten down to what is left.
func wayByHand(c camel, goods, left *big.Rat) (*big.Rat, bool) {
	if left.Cmp(goods) > 0 {
		return nil, false
	}
	way, now := new(big.Rat), new(big.Rat).Set(goods)
	for now.Cmp(left) > 0 {
		k := loadsBehind(c, now)
		next := loadsOf(c, k)
		if next.Cmp(left) < 0 {
			next.Set(left)
		}
		part := new(big.Rat).Sub(now, next)
		way.Add(way, part.Quo(part, rateByHand(c, k)))
		now = next
	}
	return way, true
}

func oneTripByHand(c camel, goods, way *big.Rat) (*big.Rat, bool) {
	left := lesser(goods, loadsOf(c, 1))
	left.Sub(left, new(big.Rat).Mul(way, big.NewRat(int64(c.Eats), 1)))
	return left, left.Sign() >= 0
}

func oneStopByHand(c camel, goods, stop, way *big.Rat) (*big.Rat, bool) {
	if stop.Cmp(way) > 0 {
		return nil, false
	}
	left := new(big.Rat).Set(goods)
	for _, part := range []*big.Rat{stop, new(big.Rat).Sub(way, stop)} {
		left.Sub(left, new(big.Rat).Mul(part, rateByHand(c, loadsBehind(c, left))))
		if left.Sign() < 0 {
			return nil, false
		}
	}
	return left, true
}

func someAmount(r *big.Rat, ok bool) (amount, bool) {
	if !ok {
		return amount{}, false
	}
	return amountOf(r)
}

// camelCalls are the functions of goods and another amount, in this order, with what they have to return.
type camelCalls struct {
	name   string
	call   func(camel, amount, amount) (amount, bool)
	byHand func(camel, *big.Rat, *big.Rat) (*big.Rat, bool)
}

func (f camelCalls) want(c camel, goods, other amount) (amount, bool) {
	if !areGoodsByHand(c, goods) || !isPlaceByHand(other) {
		return amount{}, false
	}
	return someAmount(f.byHand(c, ratOf(goods), ratOf(other)))
}

func callsOfCamels() []camelCalls {
	goodsFor := func(c camel, left, way amount) (amount, bool) { return impl.GoodsFor(c, way, left) }
	beforeWay := func(c camel, left, way *big.Rat) (*big.Rat, bool) { return goodsByHand(c, way, left) }
	return []camelCalls{
		{"LeftAt", impl.LeftAt, leftByHand},
		{"GoodsFor", goodsFor, beforeWay},
		{"OneTrip", impl.OneTrip, oneTripByHand},
		{"WayWith", impl.WayWith, wayByHand},
	}
}

func checkCamelCalls(t *testing.T, c camel, goods, other amount) {
	t.Helper()
	for _, f := range callsOfCamels() {
		want, wantOk := f.want(c, goods, other)
		got, ok := f.call(c, goods, other)
		expect(t, fmt.Sprint(f.name, c, goods, other), got, ok, want, wantOk)
	}
}

func oneStopAmount(c camel, goods, stop, way amount) (amount, bool) {
	if !areGoodsByHand(c, goods) || !isPlaceByHand(stop) || !isPlaceByHand(way) {
		return amount{}, false
	}
	return someAmount(oneStopByHand(c, ratOf(goods), ratOf(stop), ratOf(way)))
}

func earnedAmount(c camel, goods amount, m market) (amount, bool) {
	left, ok := callsOfCamels()[0].want(c, goods, m.At)
	if !ok || !isMarketByHand(m) {
		return amount{}, false
	}
	return amountOf(new(big.Rat).Mul(ratOf(left), ratOf(m.Price)))
}

func someCamels() []camel {
	return []camel{cam(1, 1), cam(10, 1), cam(12, 12), cam(12, 1), cam(1, 12), cam(11, 7), cam(7, 11), cam(2, 3)}
}

// goodsNearLoads are goods of whole loads and of a little more and less, of Dens up to 13, up to a little more than a camel may have.
func goodsNearLoads(c camel) []amount {
	list := []amount{am(1, 12), am(1, 13), am(5, 7)}
	for loads := range 8 {
		whole := loadsOf(c, loads)
		for _, little := range []*big.Rat{new(big.Rat), big.NewRat(1, 12), big.NewRat(1, 11), big.NewRat(7, 9), big.NewRat(1, 13), big.NewRat(1, 2)} {
			for _, near := range []*big.Rat{new(big.Rat).Add(whole, little), new(big.Rat).Sub(whole, little)} {
				if a, ok := amountOf(near); ok && !slices.Contains(list, a) {
					list = append(list, a)
				}
			}
		}
	}
	return list
}

// waysNearStops are the ways to the places where the rate changes, to the end, and to loads left, exactly, and a little longer and shorter.
func waysNearStops(c camel, goods amount) []amount {
	var list []amount
	for loads := range 6 {
		exact, ok := wayByHand(c, ratOf(goods), loadsOf(c, loads))
		if !ok {
			break
		}
		for _, little := range []*big.Rat{new(big.Rat), big.NewRat(1, 1000), big.NewRat(1, 1000000), big.NewRat(1, 999983), big.NewRat(1, 1000003), big.NewRat(1, 7)} {
			for _, near := range []*big.Rat{new(big.Rat).Add(exact, little), new(big.Rat).Sub(exact, little)} {
				if a, ok := amountOf(near); ok {
					list = append(list, a)
				}
			}
		}
	}
	return list
}

// otherAmounts are ways and goods that are left, most of them small.
func otherAmounts() []amount {
	list := []amount{
		am(0, 1), am(1, 1000000), am(1, 1000001), am(1, 999999), am(1000000000, 999999), am(1000000000, 1), am(999999937, 1000000),
		am(3, 2), am(2, 1), am(12, 1), am(72, 1), am(73, 1), am(1, 12), am(1, 13), am(143, 12), am(2, 4), am(-1, 2), am(1, 0),
	}
	draw := rand.New(rand.NewPCG(4, 11))
	for range 40 {
		den := 1 + draw.IntN(1000010)
		if draw.IntN(2) == 0 {
			den = 1 + draw.IntN(60)
		}
		list = append(list, amountNear(draw, den, 1+draw.IntN(24)))
	}
	return list
}

// amountNear is less than most, and has a Den that is no greater.
func amountNear(draw *rand.Rand, den, most int) amount {
	a, _ := amountOf(big.NewRat(int64(draw.IntN(most*den)), int64(den)))
	return a
}

func TestIsCamel(t *testing.T) {
	if impl.MaxCarry != 12 || impl.MaxLoads != 6 || impl.MaxWayDen != 1000000 {
		t.Error("limits", impl.MaxCarry, impl.MaxLoads, impl.MaxWayDen)
	}
	ints := append(hostileInts(), 4, 5, 12, 13)
	for _, load := range ints {
		for _, eats := range ints {
			if c := cam(load, eats); impl.IsCamel(c) != isCamelByHand(c) {
				t.Error("IsCamel", c, impl.IsCamel(c))
			}
		}
	}
	if !impl.IsCamel(cam(1, 12)) || !impl.IsCamel(cam(12, 1)) || impl.IsCamel(cam(0, 1)) || impl.IsCamel(cam(1, 0)) || impl.IsCamel(cam(13, 1)) || impl.IsCamel(cam(1, 13)) {
		t.Error("IsCamel at the limits")
	}
}

func TestIsMarket(t *testing.T) {
	hostile := append(hostileAmounts(), am(1, 1000001), am(1, 999999), am(7, 1000000))
	for i, a := range hostile {
		for _, m := range []market{mar(a, am(3, 2)), mar(am(3, 2), a), mar(a, hostile[(i*7+3)%len(hostile)])} {
			if impl.IsMarket(m) != isMarketByHand(m) {
				t.Error("IsMarket", m, impl.IsMarket(m))
			}
		}
	}
	if !impl.IsMarket(mar(am(1, 1000000), am(1, 1000000000))) || impl.IsMarket(mar(am(1, 1000001), am(1, 1))) || impl.IsMarket(market{}) {
		t.Error("IsMarket at the limits")
	}
}

func TestCamelExamples(t *testing.T) {
	c, goods := cam(10, 1), am(30, 1)
	rate, ok := impl.RateOf(c, goods)
	expect(t, "RateOf 30", rate, ok, 5, true)
	stops, ok := impl.StopsOf(c, goods)
	expectList(t, "StopsOf 30", stops, ok, []amount{am(2, 1), am(16, 3)}, true)
	left, ok := impl.LeftAt(c, goods, am(10, 1))
	expect(t, "LeftAt 10", left, ok, am(16, 3), true)
	way, ok := impl.FarthestWith(c, goods)
	expect(t, "FarthestWith 30", way, ok, am(46, 3), true)
	way, ok = impl.FarthestWith(cam(1, 1), am(2, 1))
	expect(t, "FarthestWith of a jeep", way, ok, am(4, 3), true)
	left, ok = impl.OneTrip(c, goods, am(10, 1))
	expect(t, "OneTrip of 30", left, ok, am(0, 1), true)
	left, ok = impl.OneStop(c, goods, am(4, 1), am(10, 1))
	expect(t, "OneStop at 4", left, ok, am(4, 1), true)
}

// TestFunctionsOfGoods holds what is told of goods alone against numbers of any size.
func TestFunctionsOfGoods(t *testing.T) {
	camels := append(someCamels(), cam(0, 1), cam(1, 0), cam(13, 1), cam(1, 13), cam(-1, 1), camel{})
	for _, load := range hostileInts() {
		camels = append(camels, cam(load, 1), cam(1, load), cam(load, load))
	}
	for _, c := range camels {
		for _, goods := range append(otherAmounts(), am(5, 1), am(20, 1)) {
			checkGoods(t, c, goods)
		}
	}
	for _, c := range someCamels() {
		for _, goods := range append(goodsNearLoads(c), hostileAmounts()...) {
			checkGoods(t, c, goods)
		}
	}
	for load := 1; load <= 12; load++ {
		for eats := 1; eats <= 12; eats++ {
			for _, goods := range goodsNearLoads(cam(load, eats)) {
				checkGoods(t, cam(load, eats), goods)
			}
		}
	}
}

func checkGoods(t *testing.T, c camel, goods amount) {
	t.Helper()
	valid := areGoodsByHand(c, goods)
	trips, rate, farthest := 0, 0, amount{}
	var stops []amount
	if valid {
		k := loadsBehind(c, ratOf(goods))
		trips, rate = k+1, int(rateByHand(c, k).Num().Int64())
		farthest, _ = someAmount(wayByHand(c, ratOf(goods), new(big.Rat)))
		for ; k >= 1; k-- {
			stop, _ := someAmount(wayByHand(c, ratOf(goods), loadsOf(c, k)))
			stops = append(stops, stop)
		}
	}
	number, ok := impl.CountTrips(c, goods)
	expect(t, fmt.Sprint("CountTrips", c, goods), number, ok, trips, valid)
	number, ok = impl.RateOf(c, goods)
	expect(t, fmt.Sprint("RateOf", c, goods), number, ok, rate, valid)
	way, ok := impl.FarthestWith(c, goods)
	expect(t, fmt.Sprint("FarthestWith", c, goods), way, ok, farthest, valid)
	list, ok := impl.StopsOf(c, goods)
	expectList(t, fmt.Sprint("StopsOf", c, goods), list, ok, stops, valid)
}

// TestGoodsAtTheEdges tells results as the document does, without the model that the other tests are made with.
func TestGoodsAtTheEdges(t *testing.T) {
	c := cam(10, 3)
	rows := []struct {
		goods       amount
		trips, rate int
		farthest    amount
		stops       []amount
		ok          bool
	}{
		{am(0, 1), 1, 3, am(0, 1), nil, true},
		{am(1, 12), 1, 3, am(1, 36), nil, true},
		{am(1, 13), 0, 0, amount{}, nil, false},
		{am(10, 1), 1, 3, am(10, 3), nil, true},
		{am(121, 12), 2, 9, am(361, 108), []amount{am(1, 108)}, true},
		{am(131, 13), 0, 0, amount{}, nil, false},
		{am(20, 1), 2, 9, am(40, 9), []amount{am(10, 9)}, true},
		{am(241, 12), 3, 15, am(89, 20), []amount{am(1, 180), am(67, 60)}, true},
		{am(719, 12), 6, 33, am(52043, 8316), []amount{am(119, 396), am(797, 1188), am(9539, 8316), am(15083, 8316), am(24323, 8316)}, true},
		{am(60, 1), 6, 33, am(13016, 2079), []amount{am(10, 33), am(200, 297), am(2390, 2079), am(3776, 2079), am(6086, 2079)}, true},
		{am(721, 12), 0, 0, amount{}, nil, false},
		{am(61, 1), 0, 0, amount{}, nil, false},
		{am(40, 2), 0, 0, amount{}, nil, false},
	}
	for _, r := range rows {
		trips, ok := impl.CountTrips(c, r.goods)
		expect(t, fmt.Sprint("CountTrips ", r.goods), trips, ok, r.trips, r.ok)
		rate, ok := impl.RateOf(c, r.goods)
		expect(t, fmt.Sprint("RateOf ", r.goods), rate, ok, r.rate, r.ok)
		way, ok := impl.FarthestWith(c, r.goods)
		expect(t, fmt.Sprint("FarthestWith ", r.goods), way, ok, r.farthest, r.ok)
		stops, ok := impl.StopsOf(c, r.goods)
		expectList(t, fmt.Sprint("StopsOf ", r.goods), stops, ok, r.stops, r.ok)
	}
}

// TestFunctionsOfGoodsAndWays holds LeftAt, GoodsFor, OneTrip and WayWith against numbers of any size.
func TestFunctionsOfGoodsAndWays(t *testing.T) {
	others := otherAmounts()
	for _, c := range someCamels() {
		for _, goods := range goodsNearLoads(c) {
			for _, other := range slices.Concat(others, waysNearStops(c, goods), goodsNearLoads(c)) {
				checkCamelCalls(t, c, goods, other)
			}
		}
	}
	draw := rand.New(rand.NewPCG(4, 4))
	for range 20000 {
		c := cam(1+draw.IntN(12), 1+draw.IntN(12))
		goods := amountNear(draw, 1+draw.IntN(12), 6*c.Load)
		farthest, _ := impl.FarthestWith(c, goods)
		checkCamelCalls(t, c, goods, amountNear(draw, 1+draw.IntN(1000000), 1+farthest.Num/farthest.Den))
		checkCamelCalls(t, c, goods, amountNear(draw, 1+draw.IntN(1000000), 1+goods.Num/goods.Den))
	}
}

// TestHostileCamels gives each argument in turn, and all together, numbers that are none.
func TestHostileCamels(t *testing.T) {
	c, goods, other := cam(3, 2), am(25, 2), am(1, 4)
	hostile := append(hostileAmounts(), am(1, 1000001), am(1, 12), am(1, 13), am(18, 1), am(217, 12), am(19, 1))
	ints := hostileInts()
	for i, a := range hostile {
		next := hostile[(i*7+3)%len(hostile)]
		badCamel := cam(ints[i%len(ints)], ints[(i/len(ints))%len(ints)])
		checkCamelCalls(t, badCamel, goods, other)
		checkCamelCalls(t, c, a, other)
		checkCamelCalls(t, c, goods, a)
		checkCamelCalls(t, badCamel, a, next)
		checkOneStop(t, badCamel, goods, other, other)
		checkOneStop(t, c, a, other, other)
		checkOneStop(t, c, goods, a, other)
		checkOneStop(t, c, goods, other, a)
		checkOneStop(t, badCamel, a, next, a)
		checkEarned(t, badCamel, goods, mar(other, other))
		checkEarned(t, c, a, mar(other, other))
		checkEarned(t, c, goods, mar(a, other))
		checkEarned(t, c, goods, mar(other, a))
		checkEarned(t, badCamel, a, mar(next, a))
	}
}

func TestCamelEdges(t *testing.T) {
	none := amount{}
	rows := []struct {
		name         string
		call         func(camel, amount, amount) (amount, bool)
		c            camel
		goods, other amount
		want         amount
		ok           bool
	}{
		{"LeftAt", impl.LeftAt, cam(10, 1), am(0, 1), am(0, 1), am(0, 1), true},
		{"LeftAt", impl.LeftAt, cam(10, 1), am(0, 1), am(1, 1000000), none, false},
		{"LeftAt", impl.LeftAt, cam(10, 1), am(30, 1), am(0, 1), am(30, 1), true},
		{"LeftAt", impl.LeftAt, cam(10, 1), am(30, 1), am(2, 1), am(20, 1), true},
		{"LeftAt", impl.LeftAt, cam(10, 1), am(30, 1), am(1999999, 1000000), am(4000001, 200000), true},
		{"LeftAt", impl.LeftAt, cam(10, 1), am(30, 1), am(2000001, 1000000), am(19999997, 1000000), true},
		{"LeftAt", impl.LeftAt, cam(10, 1), am(30, 1), am(16, 3), am(10, 1), true},
		{"LeftAt", impl.LeftAt, cam(10, 1), am(30, 1), am(46, 3), am(0, 1), true},
		{"LeftAt", impl.LeftAt, cam(10, 1), am(30, 1), am(15333334, 1000000), none, false},
		{"LeftAt", impl.LeftAt, cam(10, 1), am(30, 1), am(7666667, 500000), none, false},
		{"LeftAt", impl.LeftAt, cam(10, 1), am(30, 1), am(1, 1000000), am(5999999, 200000), true},
		{"LeftAt", impl.LeftAt, cam(10, 1), am(30, 1), am(1, 1000001), none, false},
		{"LeftAt", impl.LeftAt, cam(10, 1), am(30, 1), am(1000000000, 1), none, false},
		{"LeftAt", impl.LeftAt, cam(10, 1), am(359, 12), am(1, 4), am(86, 3), true},
		{"LeftAt", impl.LeftAt, cam(10, 1), am(359, 13), am(1, 4), none, false},
		{"LeftAt", impl.LeftAt, cam(10, 1), am(60, 1), am(10, 11), am(50, 1), true},
		{"LeftAt", impl.LeftAt, cam(10, 1), am(721, 12), am(1, 1), none, false},
		{"LeftAt", impl.LeftAt, cam(13, 1), am(30, 1), am(1, 1), none, false},
		{"OneTrip", impl.OneTrip, cam(10, 1), am(30, 1), am(0, 1), am(10, 1), true},
		{"OneTrip", impl.OneTrip, cam(10, 1), am(7, 2), am(0, 1), am(7, 2), true},
		{"OneTrip", impl.OneTrip, cam(10, 2), am(121, 12), am(1, 1), am(8, 1), true},
		{"OneTrip", impl.OneTrip, cam(10, 1), am(30, 1), am(10000001, 1000000), none, false},
		{"OneTrip", impl.OneTrip, cam(10, 1), am(0, 1), am(0, 1), am(0, 1), true},
		{"OneTrip", impl.OneTrip, cam(10, 1), am(61, 1), am(1, 1), none, false},
		{"OneTrip", impl.OneTrip, cam(10, 1), am(30, 1), am(1, 1000001), none, false},
		{"WayWith", impl.WayWith, cam(10, 1), am(30, 1), am(30, 1), am(0, 1), true},
		{"WayWith", impl.WayWith, cam(10, 1), am(30, 1), am(0, 1), am(46, 3), true},
		{"WayWith", impl.WayWith, cam(10, 1), am(30, 1), am(10, 1), am(16, 3), true},
		{"WayWith", impl.WayWith, cam(10, 1), am(30, 1), am(30000001, 1000000), none, false},
		{"WayWith", impl.WayWith, cam(10, 1), am(30, 1), am(29999999, 1000000), am(1, 5000000), true},
		{"WayWith", impl.WayWith, cam(10, 1), am(30, 1), am(1, 1000001), none, false},
		{"WayWith", impl.WayWith, cam(10, 1), am(60, 1), am(61, 1), none, false},
		{"WayWith", impl.WayWith, cam(10, 1), am(60, 1), am(1000000000, 1), none, false},
		{"WayWith", impl.WayWith, cam(10, 1), am(0, 1), am(0, 1), am(0, 1), true},
		{"GoodsFor", impl.GoodsFor, cam(10, 1), am(46, 3), am(0, 1), am(30, 1), true},
		{"GoodsFor", impl.GoodsFor, cam(10, 1), am(0, 1), am(0, 1), am(0, 1), true},
		{"GoodsFor", impl.GoodsFor, cam(10, 1), am(0, 1), am(60, 1), am(60, 1), true},
		{"GoodsFor", impl.GoodsFor, cam(10, 1), am(1, 1000000), am(60, 1), none, false},
		{"GoodsFor", impl.GoodsFor, cam(10, 1), am(0, 1), am(721, 12), none, false},
		{"GoodsFor", impl.GoodsFor, cam(10, 1), am(10, 11), am(50, 1), am(60, 1), true},
		{"GoodsFor", impl.GoodsFor, cam(10, 1), am(909091, 1000000), am(50, 1), none, false},
		{"GoodsFor", impl.GoodsFor, cam(10, 1), am(1, 1000000), am(10, 1), am(10000003, 1000000), true},
		{"GoodsFor", impl.GoodsFor, cam(10, 1), am(1, 1000000), am(119, 12), am(29750003, 3000000), true},
		{"GoodsFor", impl.GoodsFor, cam(10, 1), am(1, 1000001), am(10, 1), none, false},
		{"GoodsFor", impl.GoodsFor, cam(10, 1), am(1, 2), am(10, 13), none, false},
		{"GoodsFor", impl.GoodsFor, cam(10, 1), am(1000000000, 1), am(0, 1), none, false},
		{"GoodsFor", impl.GoodsFor, cam(10, 1), am(13016, 693), am(0, 1), am(60, 1), true},
	}
	for _, r := range rows {
		got, ok := r.call(r.c, r.goods, r.other)
		expect(t, fmt.Sprint(r.name, r.c, r.goods, r.other), got, ok, r.want, r.ok)
	}
}

// TestCamelAmountsInBetween has results that are no amounts though a place or a way in between is one, and the other way round.
func TestCamelAmountsInBetween(t *testing.T) {
	rows := []struct {
		name                   string
		call                   func(camel, amount, amount) (amount, bool)
		c                      camel
		goods, other           amount
		betweenNum, betweenDen int64
		num, den               int64
	}{
		{"LeftAt", impl.LeftAt, cam(12, 1), am(137, 2), am(6809671, 484236), 716335381, 186430860, 1520834939, 186430860},
		{"LeftAt", impl.LeftAt, cam(1, 7), am(39, 7), am(126321, 603605), 261726503, 2928087855, 156571762, 418298265},
		{"GoodsFor", impl.GoodsFor, cam(12, 4), am(412973, 407629), am(34, 1), 12943481, 85602090, 2852819282, 42801045},
		{"GoodsFor", impl.GoodsFor, cam(4, 6), am(58759, 114497), am(51, 11), 56363641, 2380392630, 777694741, 36066555},
		{"WayWith", impl.WayWith, cam(6, 7), am(314, 11), am(6274862, 376447), 16815378, 13175645, 2124150352, 9130721985},
		{"WayWith", impl.WayWith, cam(12, 1), am(137, 2), am(13286665, 258844), 1670210939, 81535860, 44485291, 25625556},
	}
	for _, r := range rows {
		_, betweenOk := amountOf(big.NewRat(r.betweenNum, r.betweenDen))
		want, wantOk := amountOf(big.NewRat(r.num, r.den))
		if betweenOk == wantOk {
			t.Errorf("%s does not show what it has to: %v, %v", r.name, betweenOk, wantOk)
		}
		got, ok := r.call(r.c, r.goods, r.other)
		expect(t, fmt.Sprint(r.name, r.c, r.goods, r.other), got, ok, want, wantOk)
	}
}

func checkOneStop(t *testing.T, c camel, goods, stop, way amount) {
	t.Helper()
	want, wantOk := oneStopAmount(c, goods, stop, way)
	got, ok := impl.OneStop(c, goods, stop, way)
	expect(t, fmt.Sprint("OneStop", c, goods, stop, way), got, ok, want, wantOk)
}

func TestOneStop(t *testing.T) {
	for _, c := range someCamels() {
		for _, goods := range goodsNearLoads(c) {
			ways := append(waysNearStops(c, goods), am(0, 1), am(1, 2), am(1000000000, 999999), am(1, 1000001))
			for i, way := range ways {
				checkOneStop(t, c, goods, am(0, 1), way)
				checkOneStop(t, c, goods, way, way)
				checkOneStop(t, c, goods, ways[(i*5+1)%len(ways)], way)
				checkOneStop(t, c, goods, ways[(i*11+7)%len(ways)], way)
			}
		}
	}
	draw := rand.New(rand.NewPCG(4, 44))
	for range 20000 {
		c := cam(1+draw.IntN(12), 1+draw.IntN(12))
		goods := amountNear(draw, 1+draw.IntN(12), 6*c.Load)
		farthest, _ := impl.FarthestWith(c, goods)
		most := 1 + farthest.Num/farthest.Den
		checkOneStop(t, c, goods, amountNear(draw, 1+draw.IntN(1000000), most), amountNear(draw, 1+draw.IntN(1000000), most))
		checkOneStop(t, c, goods, amountNear(draw, 1+draw.IntN(30), most), amountNear(draw, 1+draw.IntN(30), most))
	}
}

func TestOneStopEdges(t *testing.T) {
	none := amount{}
	rows := []struct {
		c                      camel
		goods, stop, way, want amount
		ok                     bool
	}{
		{cam(10, 1), am(30, 1), am(0, 1), am(0, 1), am(30, 1), true},
		{cam(10, 1), am(30, 1), am(0, 1), am(5, 1), am(5, 1), true},
		{cam(10, 1), am(30, 1), am(0, 1), am(6, 1), am(0, 1), true},
		{cam(10, 1), am(30, 1), am(0, 1), am(6000001, 1000000), none, false},
		{cam(10, 1), am(30, 1), am(2, 1), am(5, 1), am(11, 1), true},
		{cam(10, 1), am(30, 1), am(1999999, 1000000), am(5, 1), am(5, 1), true},
		{cam(10, 1), am(30, 1), am(3, 1), am(3, 1), am(15, 1), true},
		{cam(10, 1), am(30, 1), am(3, 1), am(6, 1), am(6, 1), true},
		{cam(10, 1), am(30, 1), am(4, 1), am(14, 1), am(0, 1), true},
		{cam(10, 1), am(30, 1), am(4, 1), am(14000001, 1000000), none, false},
		{cam(10, 1), am(30, 1), am(6, 1), am(6, 1), am(0, 1), true},
		{cam(10, 1), am(30, 1), am(6, 1), am(6000001, 1000000), none, false},
		{cam(10, 1), am(30, 1), am(6000001, 1000000), am(6000001, 1000000), none, false},
		{cam(10, 1), am(30, 1), am(6000001, 1000000), am(7, 1), none, false},
		{cam(10, 1), am(30, 1), am(5, 1), am(4999999, 1000000), none, false},
		{cam(10, 1), am(30, 1), am(1000000000, 999999), am(1, 1), none, false},
		{cam(10, 1), am(30, 1), am(1, 1000001), am(1, 1), none, false},
		{cam(10, 1), am(30, 1), am(1, 2), am(1000000, 1000001), none, false},
		{cam(10, 1), am(1, 13), am(0, 1), am(0, 1), none, false},
		{cam(10, 1), am(0, 1), am(0, 1), am(0, 1), am(0, 1), true},
		{cam(10, 1), am(0, 1), am(0, 1), am(1, 1000000), none, false},
		{cam(12, 12), am(863, 12), am(1, 999983), am(1, 2), am(71, 12), true},
		// The way behind the stop is no amount here, what is left is one.
		{cam(10, 1), am(10, 1), am(1, 999983), am(2, 999979), am(9999788, 999979), true},
		// What is left at the stop is an amount here, what is left in the end is none.
		{cam(10, 1), am(11, 1), am(400001, 999983), am(999978, 999979), none, false},
	}
	for _, r := range rows {
		got, ok := impl.OneStop(r.c, r.goods, r.stop, r.way)
		expect(t, fmt.Sprint("OneStop", r.c, r.goods, r.stop, r.way), got, ok, r.want, r.ok)
	}
}

func checkEarned(t *testing.T, c camel, goods amount, m market) {
	t.Helper()
	want, wantOk := earnedAmount(c, goods, m)
	got, ok := impl.EarnedAt(c, goods, m)
	expect(t, fmt.Sprint("EarnedAt", c, goods, m), got, ok, want, wantOk)
}

func TestEarnedAt(t *testing.T) {
	prices := []amount{am(0, 1), am(1, 1), am(7, 3), am(1000000000, 1), am(1, 1000000000), am(999999937, 1000000000), am(2, 1), am(3, 4), am(4, 2)}
	for _, c := range someCamels() {
		for _, goods := range goodsNearLoads(c) {
			for i, way := range waysNearStops(c, goods) {
				checkEarned(t, c, goods, mar(way, prices[i%len(prices)]))
				checkEarned(t, c, goods, mar(way, prices[(i*5+3)%len(prices)]))
			}
		}
	}
	draw := rand.New(rand.NewPCG(4, 444))
	for range 20000 {
		c := cam(1+draw.IntN(12), 1+draw.IntN(12))
		goods := amountNear(draw, 1+draw.IntN(12), 6*c.Load)
		farthest, _ := impl.FarthestWith(c, goods)
		at := amountNear(draw, 1+draw.IntN(1000), 1+farthest.Num/farthest.Den)
		checkEarned(t, c, goods, mar(at, amountNear(draw, 1+draw.IntN(1000), 50)))
	}
}

func TestEarnedAtTheEdges(t *testing.T) {
	none := amount{}
	rows := []struct {
		c     camel
		goods amount
		m     market
		want  amount
		ok    bool
	}{
		{cam(10, 1), am(30, 1), mar(am(10, 1), am(3, 4)), am(4, 1), true},
		{cam(10, 1), am(30, 1), mar(am(46, 3), am(1000000000, 1)), am(0, 1), true},
		{cam(10, 1), am(30, 1), mar(am(15333334, 1000000), am(0, 1)), none, false},
		{cam(10, 1), am(30, 1), mar(am(7666667, 500000), am(0, 1)), none, false},
		{cam(10, 1), am(30, 1), mar(am(0, 1), am(0, 1)), am(0, 1), true},
		{cam(10, 1), am(30, 1), mar(am(1, 1000001), am(1, 1)), none, false},
		{cam(10, 1), am(30, 1), mar(am(1, 1), am(2, 2)), none, false},
		{cam(10, 1), am(30, 1), mar(am(1, 1), am(40000000, 1)), am(1000000000, 1), true},
		{cam(10, 1), am(30, 1), mar(am(1, 1), am(40000001, 1)), none, false},
		// What is left is no amount here, though it would be one times the price.
		{cam(1, 4), am(23, 4), mar(am(112867, 397004), am(2, 1)), none, false},
	}
	for _, r := range rows {
		got, ok := impl.EarnedAt(r.c, r.goods, r.m)
		expect(t, fmt.Sprint("EarnedAt", r.c, r.goods, r.m), got, ok, r.want, r.ok)
	}
}

// mostByHand tells the first one of the greatest amounts of those there are.
func mostByHand(count int, of func(int) (amount, bool)) (int, amount, bool) {
	index, most := -1, amount{}
	for i := range count {
		if a, ok := of(i); ok && (index < 0 || ratOf(a).Cmp(ratOf(most)) > 0) {
			index, most = i, a
		}
	}
	return max(index, 0), most, index >= 0
}

func checkBestStop(t *testing.T, c camel, goods amount, stops []amount, way amount) {
	t.Helper()
	index, most, wantOk := 0, amount{}, false
	if len(stops) <= 20 && !slices.ContainsFunc(stops, func(a amount) bool { return !isPlaceByHand(a) }) {
		index, most, wantOk = mostByHand(len(stops), func(i int) (amount, bool) { return oneStopAmount(c, goods, stops[i], way) })
	}
	got, left, ok := impl.BestStop(c, goods, stops, way)
	what := fmt.Sprint("BestStop", c, goods, stops, way)
	expect(t, what, got, ok, index, wantOk)
	expect(t, what, left, ok, most, wantOk)
}

func checkBestMarket(t *testing.T, c camel, goods amount, markets []market) {
	t.Helper()
	index, wantOk := 0, false
	if len(markets) <= 20 && !slices.ContainsFunc(markets, func(m market) bool { return !isMarketByHand(m) }) {
		index, _, wantOk = mostByHand(len(markets), func(i int) (amount, bool) { return earnedAmount(c, goods, markets[i]) })
	}
	got, ok := impl.BestMarket(c, goods, markets)
	expect(t, fmt.Sprint("BestMarket", c, goods, markets), got, ok, index, wantOk)
}

func campsByHand(c camel, goods amount, camps []amount) ([]amount, bool) {
	if len(camps) > 20 || !areGoodsByHand(c, goods) {
		return nil, false
	}
	var list []amount
	for i, camp := range camps {
		left, ok := callsOfCamels()[0].want(c, goods, camp)
		if !ok || i > 0 && ratOf(camps[i-1]).Cmp(ratOf(camp)) >= 0 {
			return nil, false
		}
		list = append(list, left)
	}
	return list, true
}

func checkCamps(t *testing.T, c camel, goods amount, camps []amount) {
	t.Helper()
	want, wantOk := campsByHand(c, goods, camps)
	got, ok := impl.CampsLeft(c, goods, camps)
	expectList(t, fmt.Sprint("CampsLeft", c, goods, camps), got, ok, want, wantOk)
}

// TestListsOfPlaces draws lists of 0 to 21 stops, markets and camps, some of them too far away.
func TestListsOfPlaces(t *testing.T) {
	draw := rand.New(rand.NewPCG(4, 4444))
	for range 8000 {
		c := cam(1+draw.IntN(12), 1+draw.IntN(12))
		goods := amountNear(draw, 1+draw.IntN(12), 6*c.Load)
		farthest, _ := impl.FarthestWith(c, goods)
		count := draw.IntN(22)
		var places []amount
		var markets []market
		for range count {
			place := amountNear(draw, 1+draw.IntN(12), 1+farthest.Num/farthest.Den)
			places = append(places, place)
			markets = append(markets, mar(place, amountNear(draw, 1+draw.IntN(3), 3)))
		}
		checkBestStop(t, c, goods, places, amountNear(draw, 1+draw.IntN(12), 1+farthest.Num/farthest.Den))
		checkBestMarket(t, c, goods, markets)
		checkCamps(t, c, goods, places)
		slices.SortFunc(places, func(a, b amount) int { return ratOf(a).Cmp(ratOf(b)) })
		checkCamps(t, c, goods, slices.Compact(places))
	}
}

func TestHostileLists(t *testing.T) {
	c, goods, some := cam(10, 1), am(30, 1), []amount{am(1, 1), am(4, 1)}
	ints := hostileInts()
	hostile := append(hostileAmounts(), am(1, 1000001), am(1, 13), am(61, 1))
	for i, a := range hostile {
		badCamel := cam(ints[i%len(ints)], ints[(i/len(ints))%len(ints)])
		next := hostile[(i*7+3)%len(hostile)]
		checkBestStop(t, badCamel, goods, some, am(5, 1))
		checkBestStop(t, c, a, some, am(5, 1))
		checkBestStop(t, c, goods, some, a)
		checkBestStop(t, c, goods, []amount{am(2, 1), a}, am(5, 1))
		checkBestStop(t, badCamel, a, []amount{next, a}, next)
		checkBestMarket(t, badCamel, goods, []market{mar(am(1, 1), am(1, 1))})
		checkBestMarket(t, c, a, []market{mar(am(1, 1), am(1, 1))})
		checkBestMarket(t, c, goods, []market{mar(am(1, 1), am(1, 1)), mar(a, am(1, 2)), mar(am(2, 1), am(1, 1))})
		checkBestMarket(t, c, goods, []market{mar(am(1, 1), am(1, 1)), mar(am(1, 2), a)})
		checkBestMarket(t, badCamel, a, []market{mar(next, a)})
		checkCamps(t, badCamel, goods, some)
		checkCamps(t, badCamel, goods, nil)
		checkCamps(t, c, a, some)
		checkCamps(t, c, a, nil)
		checkCamps(t, c, goods, []amount{a})
		checkCamps(t, c, goods, []amount{am(1, 1), a})
		checkCamps(t, c, goods, []amount{a, am(5, 1)})
	}
}

func TestBestStopEdges(t *testing.T) {
	c, goods, way := cam(10, 1), am(30, 1), am(5, 1)
	none, far, same := amount{}, am(6, 1), am(1, 2)
	behind := slices.Repeat([]amount{far}, 19)
	rows := []struct {
		stops []amount
		way   amount
		index int
		left  amount
		ok    bool
	}{
		{nil, way, 0, none, false},
		{[]amount{}, way, 0, none, false},
		{[]amount{am(0, 1), am(1, 1), am(2, 1), am(4, 1)}, way, 2, am(11, 1), true},
		{[]amount{am(1, 1), same, am(0, 1)}, way, 0, am(5, 1), true},
		{[]amount{am(4, 1), am(2, 1), am(2, 1)}, way, 1, am(11, 1), true},
		{[]amount{far, am(5, 1), am(0, 1), far}, way, 1, am(5, 1), true},
		{[]amount{far, am(7, 1)}, way, 0, none, false},
		{[]amount{far, far, am(6, 1)}, am(6, 1), 0, am(0, 1), true},
		{append(behind[:19:19], same), way, 19, am(5, 1), true},
		{append(behind[:19:19], same, same), way, 0, none, false},
		{[]amount{am(2, 1), am(1, 1000001)}, way, 0, none, false},
		{[]amount{am(2, 1), am(2, 4)}, way, 0, none, false},
		{[]amount{am(2, 1)}, am(5000005, 1000001), 0, none, false},
	}
	for _, r := range rows {
		index, left, ok := impl.BestStop(c, goods, r.stops, r.way)
		expect(t, fmt.Sprint("BestStop ", r.stops, r.way), index, ok, r.index, r.ok)
		expect(t, fmt.Sprint("BestStop ", r.stops, r.way), left, ok, r.left, r.ok)
	}
}

func TestBestMarketEdges(t *testing.T) {
	c, goods := cam(10, 1), am(30, 1)
	far, near := mar(am(16, 1), am(9, 1)), mar(am(2, 1), am(1, 2))
	behind := slices.Repeat([]market{far}, 19)
	rows := []struct {
		markets []market
		index   int
		ok      bool
	}{
		{nil, 0, false},
		{[]market{}, 0, false},
		{[]market{mar(am(46, 3), am(5, 1)), mar(am(0, 1), am(0, 1))}, 0, true},
		{[]market{near, mar(am(16, 3), am(2, 1)), mar(am(10, 1), am(3, 1))}, 1, true},
		{[]market{near, mar(am(16, 3), am(1, 1)), mar(am(0, 1), am(1, 3))}, 0, true},
		{[]market{far, near, far}, 1, true},
		{[]market{far, far}, 0, false},
		{[]market{mar(am(0, 1), am(1000000000, 1)), near}, 1, true},
		{append(behind[:19:19], near), 19, true},
		{append(behind[:19:19], near, near), 0, false},
		{[]market{near, mar(am(1, 1000001), am(1, 1))}, 0, false},
		{[]market{near, mar(am(1, 1), am(1, 0))}, 0, false},
	}
	for _, r := range rows {
		index, ok := impl.BestMarket(c, goods, r.markets)
		expect(t, fmt.Sprint("BestMarket ", r.markets), index, ok, r.index, r.ok)
	}
}

func TestCampsLeftEdges(t *testing.T) {
	c, goods := cam(10, 1), am(30, 1)
	var many, left []amount
	for i := range 21 {
		place, _ := impl.MakeAmount(i, 21)
		many = append(many, place)
		rest, _ := impl.LeftAt(c, goods, place)
		left = append(left, rest)
	}
	rows := []struct {
		camps, want []amount
		ok          bool
	}{
		{nil, nil, true},
		{[]amount{}, nil, true},
		{[]amount{am(0, 1), am(2, 1), am(16, 3), am(10, 1), am(46, 3)}, []amount{am(30, 1), am(20, 1), am(10, 1), am(16, 3), am(0, 1)}, true},
		{[]amount{am(2, 1), am(2, 1)}, nil, false},
		{[]amount{am(2, 1), am(1, 1)}, nil, false},
		{[]amount{am(1, 1), am(3, 1), am(2, 1)}, nil, false},
		{[]amount{am(2, 1), am(16, 1)}, nil, false},
		{[]amount{am(16, 1)}, nil, false},
		{[]amount{am(1, 1000001), am(2, 1)}, nil, false},
		{many[:20], left[:20], true},
		{many, nil, false},
	}
	for _, r := range rows {
		got, ok := impl.CampsLeft(c, goods, r.camps)
		expectList(t, fmt.Sprint("CampsLeft ", r.camps), got, ok, r.want, r.ok)
	}
	got, ok := impl.CampsLeft(camel{}, goods, nil)
	expectList(t, "CampsLeft of no camel", got, ok, nil, false)
	got, ok = impl.CampsLeft(c, am(61, 1), nil)
	expectList(t, "CampsLeft of too much", got, ok, nil, false)
}

// TestListsAreKeptApart has lists with room behind them, whose results are changed afterwards.
func TestListsAreKeptApart(t *testing.T) {
	c, goods := cam(10, 1), am(30, 1)
	room := []amount{am(1, 1), am(2, 1), am(4, 1), am(-7, 9), am(-7, 9)}
	stalls := []market{mar(am(1, 1), am(1, 1)), mar(am(2, 1), am(3, 1)), mar(am(-7, 9), am(-7, 9))}
	keptRoom, keptStalls := slices.Clone(room), slices.Clone(stalls)
	left, ok := impl.CampsLeft(c, goods, room[:3])
	expectList(t, "CampsLeft", left, ok, []amount{am(25, 1), am(20, 1), am(14, 1)}, true)
	left[0] = amount{}
	left, ok = impl.CampsLeft(c, goods, room[:3])
	expectList(t, "CampsLeft again", left, ok, []amount{am(25, 1), am(20, 1), am(14, 1)}, true)
	index, _, ok := impl.BestStop(c, goods, room[:3], am(5, 1))
	expect(t, "BestStop", index, ok, 1, true)
	index, ok = impl.BestMarket(c, goods, stalls[:2])
	expect(t, "BestMarket", index, ok, 1, true)
	expectList(t, "the places", room, true, keptRoom, true)
	expectList(t, "the markets", stalls, true, keptStalls, true)
	stops, _ := impl.StopsOf(c, goods)
	stops[0] = amount{}
	stops, ok = impl.StopsOf(c, goods)
	expectList(t, "StopsOf again", stops, ok, []amount{am(2, 1), am(16, 3)}, true)
}

// TestGoodsAndWaysUndo is the promise 4, as far as results may be arguments again.
func TestGoodsAndWaysUndo(t *testing.T) {
	undone := [3]int{}
	for _, c := range someCamels() {
		for _, goods := range goodsNearLoads(c) {
			if !areGoodsByHand(c, goods) {
				continue
			}
			farthest, _ := impl.FarthestWith(c, goods)
			nothing, ok := impl.LeftAt(c, goods, farthest)
			expect(t, fmt.Sprint("LeftAt FarthestWith", c, goods), nothing, ok, am(0, 1), true)
			for _, way := range append(waysNearStops(c, goods), otherAmounts()...) {
				undone[0] += checkLeftUndone(t, c, goods, way)
				undone[1] += checkWayUndone(t, c, goods, way)
				undone[2] += checkGoodsUndone(t, c, goods, way)
			}
		}
	}
	if undone[0] < 10000 || undone[1] < 10000 || undone[2] < 1500 {
		t.Error("too few are undone", undone)
	}
}

func checkLeftUndone(t *testing.T, c camel, goods, way amount) int {
	t.Helper()
	left, ok := impl.LeftAt(c, goods, way)
	if !ok || left.Den > impl.MaxWayDen {
		return 0
	}
	again, ok := impl.WayWith(c, goods, left)
	expect(t, fmt.Sprint("WayWith LeftAt", c, goods, way), again, ok, way, true)
	if left.Den <= 12 {
		before, ok := impl.GoodsFor(c, way, left)
		expect(t, fmt.Sprint("GoodsFor LeftAt", c, goods, way), before, ok, goods, true)
	}
	return 1
}

func checkWayUndone(t *testing.T, c camel, goods, left amount) int {
	t.Helper()
	way, ok := impl.WayWith(c, goods, left)
	if !ok || way.Den > impl.MaxWayDen {
		return 0
	}
	again, ok := impl.LeftAt(c, goods, way)
	expect(t, fmt.Sprint("LeftAt WayWith", c, goods, left), again, ok, left, true)
	return 1
}

func checkGoodsUndone(t *testing.T, c camel, left, way amount) int {
	t.Helper()
	goods, ok := impl.GoodsFor(c, way, left)
	if !ok || goods.Den > 12 {
		return 0
	}
	again, ok := impl.LeftAt(c, goods, way)
	expect(t, fmt.Sprint("LeftAt GoodsFor", c, left, way), again, ok, left, true)
	back, ok := impl.WayWith(c, goods, left)
	expect(t, fmt.Sprint("WayWith GoodsFor", c, left, way), back, ok, way, true)
	return 1
}

// TestCamelIsAJeep is the other half of promise 4: a camel with the Load 1 that eats 1 is a jeep out.
func TestCamelIsAJeep(t *testing.T) {
	jeep := cam(1, 1)
	for den := 1; den <= 12; den++ {
		for num := 0; num <= 6*den; num++ {
			goods := am(num, den)
			if !isAmountByHand(goods) {
				continue
			}
			want, wantOk := impl.FarthestOut(goods)
			way, ok := impl.FarthestWith(jeep, goods)
			expect(t, fmt.Sprint("FarthestWith of a jeep with ", goods), way, ok, want, wantOk)
			fuel, ok := impl.GoodsFor(jeep, way, am(0, 1))
			expect(t, fmt.Sprint("GoodsFor of a jeep with ", goods), fuel, ok, goods, true)
		}
	}
	for n := range 7 {
		depots, _ := impl.DepotsOut(n)
		var places []amount
		for _, d := range depots {
			places = append(places, d.At)
		}
		stops, ok := impl.StopsOf(jeep, am(n, 1))
		expectList(t, fmt.Sprint("StopsOf of a jeep with ", n), stops, ok, places, true)
	}
	for _, way := range jeepAmounts() {
		if fuel, ok := impl.FuelOut(way); ok && isPlaceByHand(way) && ratOf(fuel).Cmp(big.NewRat(6, 1)) <= 0 {
			goods, ok := impl.GoodsFor(jeep, way, am(0, 1))
			expect(t, fmt.Sprint("GoodsFor of a jeep for ", way), goods, ok, fuel, true)
		}
	}
}
