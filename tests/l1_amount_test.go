package tests

import (
	"fmt"
	"math"
	"math/big"
	"slices"
	"strings"
	"testing"

	"loop.example/g01258/impl"
)

// aPrime is so great that no two different fractions of it and of another Den make an amount together.
const aPrime = 999999937

func TestAmountLimitConstants(t *testing.T) {
	if impl.MaxNum != 1000000000 || impl.MaxDen != 1000000000 {
		t.Error("limits", impl.MaxNum, impl.MaxDen)
	}
}

func TestIsAmount(t *testing.T) {
	yes := []amount{am(0, 1), am(1, 1), am(7, 3), am(1000000000, 1), am(1, 1000000000), am(1000000000, 999999999), am(999999999, 1000000000)}
	no := []amount{{}, am(0, 2), am(2, 4), am(3, 3), am(1, 0), am(1, -1), am(-1, 1), am(-1, -1), am(-2, -4),
		am(1000000001, 1), am(1, 1000000001), am(1000000000, 1000000000), am(2000000000, 2), am(math.MinInt, math.MinInt), am(math.MaxInt, math.MaxInt)}
	for _, a := range yes {
		expect(t, fmt.Sprint("IsAmount ", a), impl.IsAmount(a), true, true, true)
	}
	for _, a := range no {
		expect(t, fmt.Sprint("IsAmount ", a), impl.IsAmount(a), true, false, true)
	}
	for _, a := range hostileAmounts() {
		expect(t, fmt.Sprint("IsAmount ", a), impl.IsAmount(a), true, isAmountByHand(a), true)
	}
}

func TestMakeAmount(t *testing.T) {
	const most = 1000000000000000
	rows := []struct {
		num, den int
		want     amount
		ok       bool
	}{
		{0, 1, am(0, 1), true}, {0, most, am(0, 1), true}, {6, 4, am(3, 2), true}, {most, most, am(1, 1), true},
		{most, 1000000, am(1000000000, 1), true}, {1000000, most, am(1, 1000000000), true},
		{1000000000, 1, am(1000000000, 1), true}, {1000000001, 1, amount{}, false},
		{1, 1000000000, am(1, 1000000000), true}, {1, 1000000001, amount{}, false}, {2, 2000000002, amount{}, false},
		{most + 1, most + 1, amount{}, false}, {most + 1, 1000001, amount{}, false}, {0, most + 1, amount{}, false},
		{-1, 1, amount{}, false}, {-2, -4, amount{}, false}, {1, -1, amount{}, false}, {1, 0, amount{}, false}, {0, 0, amount{}, false},
	}
	for _, r := range rows {
		got, ok := impl.MakeAmount(r.num, r.den)
		expect(t, fmt.Sprint("MakeAmount ", r.num, r.den), got, ok, r.want, r.ok)
	}
	for _, a := range hostileAmounts() {
		want, wantOk := amount{}, false
		if a.Num >= 0 && a.Num <= most && a.Den >= 1 && a.Den <= most {
			want, wantOk = amountOf(ratOf(a))
		}
		got, ok := impl.MakeAmount(a.Num, a.Den)
		expect(t, fmt.Sprint("MakeAmount ", a), got, ok, want, wantOk)
	}
}

// TestTwoAmounts holds the functions of two amounts against numbers of any size, for amounts and for pairs that are none.
func TestTwoAmounts(t *testing.T) {
	list := someAmounts()
	for _, a := range list {
		for _, b := range list {
			checkPair(t, a, b)
		}
	}
	hostile := hostileAmounts()
	for i, a := range hostile {
		checkPair(t, a, am(1, 2))
		checkPair(t, am(1, 2), a)
		checkPair(t, a, hostile[(i*7+3)%len(hostile)])
	}
}

func checkPair(t *testing.T, a, b amount) {
	t.Helper()
	valid := isAmountByHand(a) && isAmountByHand(b)
	calls := []struct {
		name string
		call func(amount, amount) (amount, bool)
		want func(x, y *big.Rat) *big.Rat
	}{
		{"AddAmounts", impl.AddAmounts, func(x, y *big.Rat) *big.Rat { return x.Add(x, y) }},
		{"LessAmount", impl.LessAmount, func(x, y *big.Rat) *big.Rat { return x.Sub(x, y) }},
		{"TimesAmount", impl.TimesAmount, func(x, y *big.Rat) *big.Rat { return x.Mul(x, y) }},
		{"PartAmount", impl.PartAmount, func(x, y *big.Rat) *big.Rat {
			if y.Sign() == 0 {
				return big.NewRat(-1, 1)
			}
			return x.Quo(x, y)
		}},
	}
	for _, c := range calls {
		want, wantOk := amount{}, false
		if valid {
			want, wantOk = amountOf(c.want(ratOf(a), ratOf(b)))
		}
		got, ok := c.call(a, b)
		expect(t, fmt.Sprint(c.name, " ", a, b), got, ok, want, wantOk)
	}
	wantOrder := 0
	if valid {
		wantOrder = ratOf(a).Cmp(ratOf(b))
	}
	order, ok := impl.CompareAmounts(a, b)
	expect(t, fmt.Sprint("CompareAmounts ", a, b), order, ok, wantOrder, valid)
}

func TestReckoningAtTheLimits(t *testing.T) {
	rows := []struct {
		name string
		call func(amount, amount) (amount, bool)
		a, b amount
		want amount
		ok   bool
	}{
		{"AddAmounts", impl.AddAmounts, am(999999999, 1), am(1, 1), am(1000000000, 1), true},
		{"AddAmounts", impl.AddAmounts, am(1000000000, 1), am(1, 1), amount{}, false},
		{"AddAmounts", impl.AddAmounts, am(1000000000, 1), am(0, 1), am(1000000000, 1), true},
		{"AddAmounts", impl.AddAmounts, am(1, 31250), am(1, 32000), am(253, 4000000), true},
		{"AddAmounts", impl.AddAmounts, am(1, 512), am(1, 1953125), am(1953637, 1000000000), true},
		{"AddAmounts", impl.AddAmounts, am(1, 31622), am(1, 31623), am(63245, 999982506), true},
		{"AddAmounts", impl.AddAmounts, am(1, 31623), am(1, 31624), amount{}, false},
		{"AddAmounts", impl.AddAmounts, am(1, 2), am(1, 2), am(1, 1), true},
		{"LessAmount", impl.LessAmount, am(1000000000, 1), am(1000000000, 1), am(0, 1), true},
		{"LessAmount", impl.LessAmount, am(1, 3), am(1, 2), amount{}, false},
		{"LessAmount", impl.LessAmount, am(0, 1), am(0, 1), am(0, 1), true},
		{"LessAmount", impl.LessAmount, am(1, 512), am(1, 1953125), am(1952613, 1000000000), true},
		{"LessAmount", impl.LessAmount, am(1, 2), am(1, aPrime), amount{}, false},
		{"TimesAmount", impl.TimesAmount, am(40000, 1), am(25000, 1), am(1000000000, 1), true},
		{"TimesAmount", impl.TimesAmount, am(40001, 1), am(25000, 1), amount{}, false},
		{"TimesAmount", impl.TimesAmount, am(1, 40000), am(1, 25000), am(1, 1000000000), true},
		{"TimesAmount", impl.TimesAmount, am(1, 40001), am(1, 25000), amount{}, false},
		{"TimesAmount", impl.TimesAmount, am(1000000000, 1), am(1, 1000000000), am(1, 1), true},
		{"TimesAmount", impl.TimesAmount, am(1, 1000000000), am(0, 1), am(0, 1), true},
		{"PartAmount", impl.PartAmount, am(1000000000, 1), am(1000000000, 1), am(1, 1), true},
		{"PartAmount", impl.PartAmount, am(40000, 1), am(1, 25000), am(1000000000, 1), true},
		{"PartAmount", impl.PartAmount, am(40001, 1), am(1, 25000), amount{}, false},
		{"PartAmount", impl.PartAmount, am(1, 40000), am(25000, 1), am(1, 1000000000), true},
		{"PartAmount", impl.PartAmount, am(1, 40001), am(25000, 1), amount{}, false},
		{"PartAmount", impl.PartAmount, am(0, 1), am(5, 7), am(0, 1), true},
		{"PartAmount", impl.PartAmount, am(5, 7), am(0, 1), amount{}, false},
		{"PartAmount", impl.PartAmount, am(0, 1), am(0, 1), amount{}, false},
	}
	for _, r := range rows {
		got, ok := r.call(r.a, r.b)
		expect(t, fmt.Sprint(r.name, " ", r.a, r.b), got, ok, r.want, r.ok)
	}
}

// TestAmountsUndo is the promise 1: what is added is taken away again, and amounts are compared by cross products.
func TestAmountsUndo(t *testing.T) {
	list := someAmounts()
	sums, products := 0, 0
	for _, a := range list {
		for _, b := range list {
			if sum, ok := impl.AddAmounts(a, b); ok {
				sums++
				back, ok := impl.LessAmount(sum, b)
				expect(t, fmt.Sprint("added and taken away ", a, b), back, ok, a, true)
			}
			if product, ok := impl.TimesAmount(a, b); ok && b != am(0, 1) {
				products++
				back, ok := impl.PartAmount(product, b)
				expect(t, fmt.Sprint("multiplied and divided ", a, b), back, ok, a, true)
			}
			cross := 0
			if left, right := a.Num*b.Den, b.Num*a.Den; left < right {
				cross = -1
			} else if left > right {
				cross = 1
			}
			order, ok := impl.CompareAmounts(a, b)
			expect(t, fmt.Sprint("compared ", a, b), order, ok, cross, true)
		}
	}
	if sums < 1000 || products < 1000 {
		t.Error("too few pairs", sums, products)
	}
}

func TestWholePart(t *testing.T) {
	rows := []struct {
		a    amount
		want int
		ok   bool
	}{
		{am(0, 1), 0, true}, {am(1, 2), 0, true}, {am(999999999, 1000000000), 0, true}, {am(7, 2), 3, true}, {am(4, 1), 4, true},
		{am(1000000000, 999999999), 1, true}, {am(1000000000, 1), 1000000000, true}, {am(4, 2), 0, false},
	}
	for _, r := range rows {
		got, ok := impl.WholePart(r.a)
		expect(t, fmt.Sprint("WholePart ", r.a), got, ok, r.want, r.ok)
	}
	for _, a := range hostileAmounts() {
		want, valid := 0, isAmountByHand(a)
		if valid {
			want = a.Num / a.Den
		}
		got, ok := impl.WholePart(a)
		expect(t, fmt.Sprint("WholePart ", a), got, ok, want, valid)
	}
}

func TestSumAmounts(t *testing.T) {
	p := aPrime
	rows := []struct {
		name string
		list []amount
		want amount
		ok   bool
	}{
		{"nil", nil, am(0, 1), true},
		{"empty", []amount{}, am(0, 1), true},
		{"zeros", []amount{am(0, 1), am(0, 1)}, am(0, 1), true},
		{"three", []amount{am(1, 2), am(1, 3), am(1, 6)}, am(1, 1), true},
		{"50", slices.Repeat([]amount{am(20000000, 1)}, 50), am(1000000000, 1), true},
		{"51", slices.Repeat([]amount{am(1, 2)}, 51), amount{}, false},
		{"51 zeros", slices.Repeat([]amount{am(0, 1)}, 51), amount{}, false},
		{"just too much", append(slices.Repeat([]amount{am(20000000, 1)}, 49), am(20000001, 1)), amount{}, false},
		{"in an order that goes", []amount{am(1, p), am(p-1, p), am(1, 2)}, am(3, 2), true},
		{"none in between", []amount{am(1, p), am(1, 2), am(p-1, p)}, amount{}, false},
		{"the first one is invalid", []amount{{}, am(1, 2)}, amount{}, false},
		{"the last one is invalid", []amount{am(1, 2), am(2, 4)}, amount{}, false},
		{"negative", []amount{am(2, 1), am(-1, 1)}, amount{}, false},
	}
	for _, r := range rows {
		got, ok := impl.SumAmounts(r.list)
		expect(t, "SumAmounts "+r.name, got, ok, r.want, r.ok)
	}
	for _, a := range hostileAmounts() {
		want := amount{}
		if isAmountByHand(a) {
			want = a
		}
		got, ok := impl.SumAmounts([]amount{a})
		expect(t, fmt.Sprint("SumAmounts ", a), got, ok, want, isAmountByHand(a))
	}
}

func TestSumAmountsLeavesItsListAlone(t *testing.T) {
	under := []amount{am(1, 2), am(2, 3), {Num: 5}, am(7, 7)}
	before := slices.Clone(under)
	got, ok := impl.SumAmounts(under[:2])
	expect(t, "SumAmounts of a beginning", got, ok, am(7, 6), true)
	impl.SumAmounts(under)
	if !slices.Equal(under, before) {
		t.Error("the list became", under)
	}
}

func sumByHand(n, step int) *big.Rat {
	sum := new(big.Rat)
	for k := range n {
		sum.Add(sum, big.NewRat(1, int64(1+k*step)))
	}
	return sum
}

// harmonics tells both harmonic sums with their greatest n, so that one test holds for both.
func harmonics() []struct {
	name     string
	step     int
	greatest int
	sum      func(int) (amount, bool)
	count    func(amount) (int, bool)
} {
	return []struct {
		name     string
		step     int
		greatest int
		sum      func(int) (amount, bool)
		count    func(amount) (int, bool)
	}{
		{"harmonic", 1, 20, impl.HarmonicSum, impl.HarmonicCount},
		{"odd harmonic", 2, 10, impl.OddHarmonicSum, impl.OddHarmonicCount},
	}
}

func TestHarmonicSums(t *testing.T) {
	known := []struct {
		call func(int) (amount, bool)
		n    int
		want amount
	}{
		{impl.HarmonicSum, 0, am(0, 1)}, {impl.HarmonicSum, 1, am(1, 1)}, {impl.HarmonicSum, 4, am(25, 12)}, {impl.HarmonicSum, 20, am(55835135, 15519504)},
		{impl.OddHarmonicSum, 0, am(0, 1)}, {impl.OddHarmonicSum, 1, am(1, 1)}, {impl.OddHarmonicSum, 3, am(23, 15)}, {impl.OddHarmonicSum, 10, am(31037876, 14549535)},
	}
	for _, k := range known {
		got, ok := k.call(k.n)
		expect(t, fmt.Sprint("harmonic sum of ", k.n), got, ok, k.want, true)
	}
	for _, h := range harmonics() {
		for n := range h.greatest + 1 {
			want, _ := amountOf(sumByHand(n, h.step))
			got, ok := h.sum(n)
			expect(t, fmt.Sprint(h.name, " sum of ", n), got, ok, want, true)
		}
		for _, n := range append(hostileInts(), h.greatest+1) {
			if n < 0 || n > h.greatest {
				got, ok := h.sum(n)
				expect(t, fmt.Sprint(h.name, " sum of ", n), got, ok, amount{}, false)
			}
		}
	}
}

func TestHarmonicCounts(t *testing.T) {
	got, ok := impl.HarmonicCount(am(2, 1))
	expect(t, "HarmonicCount 2", got, ok, 3, true)
	for _, h := range harmonics() {
		for n := range h.greatest + 1 {
			sum, _ := h.sum(n)
			got, ok := h.count(sum)
			expect(t, fmt.Sprint(h.name, " count of just the sum of ", n), got, ok, n, true)
		}
		top, _ := h.sum(h.greatest)
		above, _ := impl.AddAmounts(top, am(1, top.Den))
		got, ok := h.count(above)
		expect(t, h.name+" count just above the greatest sum", got, ok, 0, false)
		below, _ := impl.LessAmount(top, am(1, top.Den))
		got, ok = h.count(below)
		expect(t, h.name+" count just below the greatest sum", got, ok, h.greatest-1, true)
		for _, a := range append(someAmounts(), hostileAmounts()...) {
			want, wantOk := countByHand(a, h.step, h.greatest)
			got, ok := h.count(a)
			expect(t, fmt.Sprint(h.name, " count of ", a), got, ok, want, wantOk)
		}
	}
}

func countByHand(a amount, step, greatest int) (int, bool) {
	if !isAmountByHand(a) || sumByHand(greatest, step).Cmp(ratOf(a)) < 0 {
		return 0, false
	}
	n := 0
	for n < greatest && sumByHand(n+1, step).Cmp(ratOf(a)) <= 0 {
		n++
	}
	return n, true
}

func TestUnitParts(t *testing.T) {
	rows := []struct {
		a    amount
		want []int
		ok   bool
	}{
		{am(0, 1), nil, true}, {am(4, 5), []int{2, 4, 20}, true}, {am(1, 2), []int{2}, true}, {am(2, 3), []int{2, 6}, true},
		{am(1, 1000000000), []int{1000000000}, true}, {am(999999999, 1000000000), nil, false},
		{am(665591, 720720), []int{2, 3, 12, 147, 25610, 993872880}, true},
		{am(5, 121), nil, false}, {am(2, aPrime), nil, false},
		{am(1, 1), nil, false}, {am(3, 2), nil, false}, {am(1000000000, 1), nil, false}, {am(2, 4), nil, false}, {amount{}, nil, false},
	}
	for _, r := range rows {
		got, ok := impl.UnitParts(r.a)
		if !slices.Equal(got, r.want) || ok != r.ok {
			t.Errorf("UnitParts %v: got %v, %v; want %v, %v", r.a, got, ok, r.want, r.ok)
		}
	}
	list := append(someAmounts(), hostileAmounts()...)
	for den := 2; den <= 150; den++ {
		for num := 1; num < den; num++ {
			list = append(list, am(num, den))
		}
	}
	for _, a := range list {
		want, wantOk := unitPartsByHand(a)
		got, ok := impl.UnitParts(a)
		if !slices.Equal(got, want) || ok != wantOk {
			t.Errorf("UnitParts %v: got %v, %v; want %v, %v", a, got, ok, want, wantOk)
		}
	}
}

// unitPartsByHand tries the Dens one after the other where they are small, so that it does not divide as the program does.
func unitPartsByHand(a amount) ([]int, bool) {
	if !isAmountByHand(a) || a.Num >= a.Den {
		return nil, false
	}
	var dens []int
	left := ratOf(a)
	for left.Sign() > 0 {
		inverse := new(big.Rat).Inv(left)
		den := new(big.Int).Quo(inverse.Num(), inverse.Denom())
		for new(big.Rat).SetFrac(big.NewInt(1), den).Cmp(left) > 0 {
			den.Add(den, big.NewInt(1))
		}
		left = left.Sub(left, new(big.Rat).SetFrac(big.NewInt(1), den))
		dens = append(dens, int(den.Int64()))
		if _, ok := amountOf(left); !ok || den.Int64() > 1000000000 || len(dens) > 6 {
			return nil, false
		}
	}
	return dens, true
}

func TestUnitPartsAreNewEachTime(t *testing.T) {
	first, _ := impl.UnitParts(am(4, 5))
	first[0] = 99
	second, ok := impl.UnitParts(am(4, 5))
	if !ok || !slices.Equal(second, []int{2, 4, 20}) {
		t.Error("after a change of the first result", second)
	}
}

func TestSteppedSum(t *testing.T) {
	p := aPrime
	rows := []struct {
		first, step amount
		n           int
		want        amount
		ok          bool
	}{
		{am(1, 2), am(1, 1), 3, am(9, 2), true},
		{am(1, 2), am(1, 1), 0, am(0, 1), true},
		{am(1, 2), am(1, p), 1, am(1, 2), true},
		{am(1, 1), am(1, 1), 1000, am(500500, 1), true},
		{am(1000000, 1), am(0, 1), 1000, am(1000000000, 1), true},
		{am(0, 1), am(2001, 1), 1000, am(999499500, 1), true},
		{am(0, 1), am(2003, 1), 1000, amount{}, false},
		{am(1000001, 1), am(0, 1), 1000, amount{}, false},
		{am(1000000, 1), am(1, 1000), 1000, amount{}, false},
		{am(1, 1), am(1, 1), 1001, amount{}, false},
		{am(1, 1), am(1, 1), -1, amount{}, false},
		{am(1, 1), am(1, 1), math.MinInt, amount{}, false},
		{am(1, 1), am(1, 1), math.MaxInt, amount{}, false},
		{am(0, 1), am(0, 1), 1001, amount{}, false},
		{am(2, 2), am(1, 1), 0, amount{}, false},
		{am(1, 1), am(2, 2), 0, amount{}, false},
		{am(1, 1), am(0, 0), 1, amount{}, false},
		// The firsts are none here, or the steps, though all together would be 428571429.
		{am(999999999, 7), am(2, 7), 3, amount{}, false},
		{am(2, 7), am(999999999, 7), 3, amount{}, false},
	}
	for _, r := range rows {
		got, ok := impl.SteppedSum(r.first, r.step, r.n)
		expect(t, fmt.Sprint("SteppedSum ", r.first, r.step, r.n), got, ok, r.want, r.ok)
	}
	for _, a := range hostileAmounts() {
		for _, n := range []int{0, 1, 1000} {
			checkSteppedSum(t, a, am(1, 3), n)
			checkSteppedSum(t, am(1, 3), a, n)
		}
	}
	for _, a := range someAmounts() {
		for _, n := range append(hostileInts(), 4, 5) {
			checkSteppedSum(t, a, am(5, 6), n)
			checkSteppedSum(t, am(5, 6), a, n)
		}
	}
}

// checkSteppedSum adds one stretch after the other, and tells the two products only to see whether they are amounts.
func checkSteppedSum(t *testing.T, first, step amount, n int) {
	t.Helper()
	want, wantOk := amount{}, false
	if isAmountByHand(first) && isAmountByHand(step) && n >= 0 && n <= 1000 {
		firsts, steps := new(big.Rat), new(big.Rat)
		for k := range n {
			firsts.Add(firsts, ratOf(first))
			steps.Add(steps, new(big.Rat).Mul(ratOf(step), big.NewRat(int64(k), 1)))
		}
		_, ok1 := amountOf(firsts)
		_, ok2 := amountOf(steps)
		if want, wantOk = amountOf(firsts.Add(firsts, steps)); !ok1 || !ok2 {
			want, wantOk = amount{}, false
		}
	}
	got, ok := impl.SteppedSum(first, step, n)
	expect(t, fmt.Sprint("SteppedSum ", first, step, n), got, ok, want, wantOk)
}

func TestAmountText(t *testing.T) {
	rows := []struct {
		a    amount
		want string
	}{
		{am(0, 1), "0"}, {am(1, 1), "1"}, {am(25, 12), "2+1/12"}, {am(1, 3), "0+1/3"}, {am(999999, 1), "999999"},
		{am(1, 999999), "0+1/999999"}, {am(999998, 999999), "0+999998/999999"}, {am(999999001, 1000), "999999+1/1000"},
		{am(999999999, 999998), "1000+1999/999998"},
	}
	for _, r := range rows {
		text, ok := impl.AmountText(r.a)
		expect(t, fmt.Sprint("AmountText ", r.a), text, ok, r.want, true)
		back, ok := impl.ParseAmount(r.want)
		expect(t, "ParseAmount "+r.want, back, ok, r.a, true)
	}
	none := []amount{am(1000000, 1), am(1000000000, 1), am(1, 1000000), am(999999, 1000000), am(1, 1000000000), am(1000000000, 999), am(1000001, 1000000),
		{}, am(2, 4), am(-1, 1), am(1, -1), am(0, 2)}
	for _, a := range none {
		text, ok := impl.AmountText(a)
		expect(t, fmt.Sprint("AmountText ", a), text, ok, "", false)
	}
}

func TestAmountTextsComeBack(t *testing.T) {
	for _, a := range append(someAmounts(), hostileAmounts()...) {
		want, wantOk := "", false
		if isAmountByHand(a) && a.Num/a.Den <= 999999 && a.Den <= 999999 {
			want, wantOk = fmt.Sprint(a.Num/a.Den), true
			if a.Den > 1 {
				want += fmt.Sprintf("+%d/%d", a.Num%a.Den, a.Den)
			}
		}
		text, ok := impl.AmountText(a)
		expect(t, fmt.Sprint("AmountText ", a), text, ok, want, wantOk)
		if ok {
			back, ok := impl.ParseAmount(text)
			expect(t, "ParseAmount "+text, back, ok, a, true)
		}
	}
}

func TestTextsOfNoAmount(t *testing.T) {
	none := []string{
		"", " ", "+", "/", "-", "1+", "+1/2", "1/2", "1+1", "1+1/", "1+/2", "1+/", "0+1/2+", "0+1/2/", "0+1/2/3", "0+1/2+1/3", "1++1/2", "1+1//2",
		"00", "01", "007", "0+01/2", "0+1/02", "00+1/2", "-1", "-0", "+1", "+0", "1+-1/2", "1+1/-2", "-1+1/2", "1++1/+2",
		"0+0/1", "0+0/2", "1+0/1", "0+1/1", "0+2/1", "0+2/4", "0+2/2", "0+3/2", "1+4/6", "0+1/0", "0+0/0", "1+1/0",
		" 1", "1 ", "1\n", "1\x00", "\x001", "1 +1/2", "1+ 1/2", "1+1 /2", "1+1/ 2", "1\t", "1\r\n",
		"1000000", "0+1/1000000", "0+1000000/1000001", "999999+1/999999", "999999+999998/999999", "999999+1/1001", "1000000+1/2", "1000000000",
		"9223372036854775807", "9223372036854775808", "18446744073709551617", "0+1/18446744073709551618",
		"1e3", "0x1", "0b1", "1_000", "1.5", "1,5", "a", "abc", "\xff", "\xff\xfe", "１", "٣", "1+1/２", "½", "NaN", "1+1\\2", "1-1/2", "1*2",
		strings.Repeat("9", 100000), strings.Repeat("0", 100000) + "1", strings.Repeat("+", 100000), "0+1/" + strings.Repeat("3", 100000), strings.Repeat("\xff", 1000),
	}
	for _, s := range none {
		a, ok := impl.ParseAmount(s)
		expect(t, "ParseAmount of a wrong text", a, ok, amount{}, false)
		if ok {
			t.Errorf("the text was %.60q", s)
		}
	}
}

// TestEveryShortText parses each text of a few of the bytes that matter: it succeeds exactly for the texts of amounts.
func TestEveryShortText(t *testing.T) {
	texts := map[string]amount{}
	for _, den := range []int{1, 2, 11, 12, 21, 22} {
		for num := range 23 * den {
			if a := am(num, den); isAmountByHand(a) {
				text, _ := impl.AmountText(a)
				texts[text] = a
			}
		}
	}
	found := 0
	var grow func(s string, more int)
	grow = func(s string, more int) {
		a, ok := impl.ParseAmount(s)
		want, wantOk := texts[s]
		if wantOk {
			found++
			expect(t, "ParseAmount "+s, a, ok, want, true)
		} else if text, _ := impl.AmountText(a); ok && text != s {
			t.Errorf("ParseAmount %q: got %v, whose text is %q", s, a, text)
		} else if !ok && a != (amount{}) {
			t.Errorf("ParseAmount %q: got %v with its failure", s, a)
		}
		if more > 0 {
			for _, c := range []string{"0", "1", "2", "+", "/", "-", " ", "\xff"} {
				grow(s+c, more-1)
			}
		}
	}
	grow("", 6)
	if found < 30 {
		t.Error("too few texts", found)
	}
}
