package tests

import (
	"math"
	"math/big"
	"slices"
	"testing"

	"loop.example/g01258/impl"
)

type amount = impl.Amount

func am(num, den int) amount {
	return amount{Num: num, Den: den}
}

// hostileInts lie at, below and above the limits of the document and of int.
func hostileInts() []int {
	return []int{
		math.MinInt, math.MinInt + 1, -impl.MaxNum - 1, -impl.MaxNum, -51, -2, -1,
		0, 1, 2, 3, 7, 10, 11, 20, 21, 50, 51, 999, 1000, 1001,
		999999, 1000000, 999999937, impl.MaxNum - 1, impl.MaxNum, impl.MaxNum + 1, 2 * impl.MaxNum,
		1000000000000000 - 1, 1000000000000000, 1000000000000000 + 1,
		math.MaxInt / 2, math.MaxInt - 1, math.MaxInt,
	}
}

// hostileAmounts are all pairs of hostile ints: most of them are no amounts.
func hostileAmounts() []amount {
	var list []amount
	for _, num := range hostileInts() {
		for _, den := range hostileInts() {
			list = append(list, am(num, den))
		}
	}
	return list
}

// someAmounts are amounts of all sizes, small ones above all.
func someAmounts() []amount {
	list := []amount{
		am(0, 1), am(impl.MaxNum, 1), am(1, impl.MaxDen), am(impl.MaxNum, 999999937), am(999999937, impl.MaxDen),
		am(impl.MaxNum-1, 1), am(1, impl.MaxDen-1), am(impl.MaxNum, impl.MaxDen-1), am(impl.MaxNum-1, impl.MaxDen),
		am(500000000, 1), am(500000001, 1), am(1, 500000000), am(31622, 1), am(31623, 1), am(1, 31622), am(1, 31623),
		am(999999, 1), am(1000000, 1), am(1, 999999), am(1, 1000000), am(999998, 999999), am(999999001, 1000),
	}
	for den := 1; den <= 12; den++ {
		for num := 1; num <= 30; num++ {
			if a := am(num, den); isAmountByHand(a) {
				list = append(list, a)
			}
		}
	}
	return list
}

func isAmountByHand(a amount) bool {
	if a.Num < 0 || a.Num > 1000000000 || a.Den < 1 || a.Den > 1000000000 {
		return false
	}
	return new(big.Int).GCD(nil, nil, big.NewInt(int64(a.Num)), big.NewInt(int64(a.Den))).Int64() == 1
}

func ratOf(a amount) *big.Rat {
	return big.NewRat(int64(a.Num), int64(a.Den))
}

// amountOf tells the amount that a number of any size is, if it is one.
func amountOf(r *big.Rat) (amount, bool) {
	limit := big.NewInt(1000000000)
	if r.Sign() < 0 || r.Num().Cmp(limit) > 0 || r.Denom().Cmp(limit) > 0 {
		return amount{}, false
	}
	return am(int(r.Num().Int64()), int(r.Denom().Int64())), true
}

// expect compares a result and its last bool with what they have to be.
func expect[T comparable](t *testing.T, what string, got T, ok bool, want T, wantOk bool) {
	t.Helper()
	if got != want || ok != wantOk {
		t.Errorf("%s: got %v, %v; want %v, %v", what, got, ok, want, wantOk)
	}
}

func expectList[T comparable](t *testing.T, what string, got []T, ok bool, want []T, wantOk bool) {
	t.Helper()
	if !slices.Equal(got, want) || ok != wantOk {
		t.Errorf("%s: got %v, %v; want %v, %v", what, got, ok, want, wantOk)
	}
}
