package impl

import (
	"strconv"
	"strings"
)

const MaxNum = 1000000000
const MaxDen = 1000000000

const (
	maxMade       = 1000000000000000
	maxSummed     = 50
	maxHarmonic   = 20
	maxOdd        = 10
	maxUnitParts  = 6
	maxStepped    = 1000
	maxTextNumber = 999999
)

type Amount struct {
	Num int
	Den int
}

// fuel is an amount that can be reckoned with. Its methods take valid amounts
// only: no number in between is greater than 2 * 10^18 then, which an int holds.
type fuel struct {
	Amount
}

func (f fuel) plus(g fuel) (fuel, bool) {
	return lowestTerms(f.Num*g.Den+g.Num*f.Den, f.Den*g.Den)
}

func (f fuel) minus(g fuel) (fuel, bool) {
	return lowestTerms(f.Num*g.Den-g.Num*f.Den, f.Den*g.Den)
}

func (f fuel) times(g fuel) (fuel, bool) {
	return lowestTerms(f.Num*g.Num, f.Den*g.Den)
}

func (f fuel) dividedBy(g fuel) (fuel, bool) {
	return lowestTerms(f.Num*g.Den, f.Den*g.Num)
}

// lowestTerms takes any numbers, and fails if num / den is no amount.
func lowestTerms(num, den int) (fuel, bool) {
	if num < 0 || den < 1 {
		return fuel{}, false
	}
	d := commonDivisor(num, den)
	num, den = num/d, den/d
	if num > MaxNum || den > MaxDen {
		return fuel{}, false
	}
	return fuel{Amount{Num: num, Den: den}}, true
}

func commonDivisor(a, b int) int {
	for b != 0 {
		a, b = b, a%b
	}
	return a
}

func reckon(a, b Amount, how func(fuel, fuel) (fuel, bool)) (Amount, bool) {
	if !IsAmount(a) || !IsAmount(b) {
		return Amount{}, false
	}
	result, ok := how(fuel{a}, fuel{b})
	return result.Amount, ok
}

func whole(n int) Amount {
	return Amount{Num: n, Den: 1}
}

func inRange(n, least, greatest int) bool {
	return least <= n && n <= greatest
}

// IsAmount reports whether a, whose numbers may be any, is an amount.
func IsAmount(a Amount) bool {
	lowest, ok := lowestTerms(a.Num, a.Den)
	return ok && lowest.Amount == a
}

// MakeAmount returns num / den in lowest terms, num in 0..10^15, den in 1..10^15.
func MakeAmount(num int, den int) (Amount, bool) {
	if !inRange(num, 0, maxMade) || !inRange(den, 1, maxMade) {
		return Amount{}, false
	}
	result, ok := lowestTerms(num, den)
	return result.Amount, ok
}

// AddAmounts returns both together.
func AddAmounts(a Amount, b Amount) (Amount, bool) {
	return reckon(a, b, fuel.plus)
}

// LessAmount returns a less b. It fails if b is greater.
func LessAmount(a Amount, b Amount) (Amount, bool) {
	return reckon(a, b, fuel.minus)
}

// TimesAmount returns the product.
func TimesAmount(a Amount, b Amount) (Amount, bool) {
	return reckon(a, b, fuel.times)
}

// PartAmount returns a divided by b. It fails if b is 0.
func PartAmount(a Amount, b Amount) (Amount, bool) {
	return reckon(a, b, fuel.dividedBy)
}

// CompareAmounts returns -1, 0 or 1, as a is less than b, the same, or greater.
func CompareAmounts(a Amount, b Amount) (int, bool) {
	if !IsAmount(a) || !IsAmount(b) {
		return 0, false
	}
	if a == b {
		return 0, true
	}
	if a.Num*b.Den < b.Num*a.Den {
		return -1, true
	}
	return 1, true
}

// WholePart returns the greatest whole number that is no greater.
func WholePart(a Amount) (int, bool) {
	if !IsAmount(a) {
		return 0, false
	}
	return a.Num / a.Den, true
}

// SumAmounts returns all of a list of at most 50 amounts together, 0 for none, added one after the other from the first one on.
// It fails if one of these sums is no amount.
func SumAmounts(list []Amount) (Amount, bool) {
	if len(list) > maxSummed {
		return Amount{}, false
	}
	return addUp(list)
}

// addUp is SumAmounts for a list of any length.
func addUp(list []Amount) (Amount, bool) {
	sum := whole(0)
	for _, a := range list {
		next, ok := AddAmounts(sum, a)
		if !ok {
			return Amount{}, false
		}
		sum = next
	}
	return sum, true
}

// HarmonicSum returns the harmonic sum of n, in 0..20.
func HarmonicSum(n int) (Amount, bool) {
	if !inRange(n, 0, maxHarmonic) {
		return Amount{}, false
	}
	return sumOfUnits(n, 1)
}

// OddHarmonicSum returns the odd harmonic sum of n, in 0..10.
func OddHarmonicSum(n int) (Amount, bool) {
	if !inRange(n, 0, maxOdd) {
		return Amount{}, false
	}
	return sumOfUnits(n, 2)
}

// sumOfUnits adds n unit fractions whose Dens begin with 1 and grow by step.
func sumOfUnits(n, step int) (Amount, bool) {
	var units []Amount
	for k := range n {
		units = append(units, Amount{Num: 1, Den: 1 + k*step})
	}
	return SumAmounts(units)
}

// HarmonicCount returns the greatest n, in 0..20, whose harmonic sum is no greater than an amount.
// It fails if that of 20 is less than the amount.
func HarmonicCount(a Amount) (int, bool) {
	return countWithin(a, maxHarmonic, HarmonicSum)
}

// OddHarmonicCount returns the greatest n, in 0..10, whose odd harmonic sum is no greater than an amount.
// It fails if that of 10 is less than the amount.
func OddHarmonicCount(a Amount) (int, bool) {
	return countWithin(a, maxOdd, OddHarmonicSum)
}

// countWithin looks from the greatest n downwards, so that an amount beyond all sums is seen first.
func countWithin(a Amount, greatest int, sumOf func(int) (Amount, bool)) (int, bool) {
	for n := greatest; n >= 0; n-- {
		sum, _ := sumOf(n)
		order, ok := CompareAmounts(sum, a)
		if !ok || n == greatest && order < 0 {
			return 0, false
		}
		if order <= 0 {
			return n, true
		}
	}
	return 0, false
}

// UnitParts returns the Dens of the different unit fractions that are an amount less than 1 together, each one being the greatest that is no greater than what is left: none for 0.
// It fails if there are more than 6, or if a Den, or what is left, is no part of an amount.
func UnitParts(a Amount) ([]int, bool) {
	if !IsAmount(a) || a.Num >= a.Den {
		return nil, false
	}
	var dens []int
	for left := a; left != whole(0); {
		den := (left.Den + left.Num - 1) / left.Num
		rest, ok := LessAmount(left, Amount{Num: 1, Den: den})
		if !ok || len(dens) == maxUnitParts {
			return nil, false
		}
		dens = append(dens, den)
		left = rest
	}
	return dens, true
}

// SteppedSum returns first, first and step together, first and twice step together, and so on, n of them, all together, n in 0..1000: that is n times first and n (n - 1) / 2 times step together.
// It fails also if one of these two is no amount.
func SteppedSum(first Amount, step Amount, n int) (Amount, bool) {
	if !inRange(n, 0, maxStepped) {
		return Amount{}, false
	}
	firsts, ok := TimesAmount(first, whole(n))
	if !ok {
		return Amount{}, false
	}
	steps, ok := TimesAmount(step, whole(n*(n-1)/2))
	if !ok {
		return Amount{}, false
	}
	return AddAmounts(firsts, steps)
}

// AmountText returns the whole part and, if a part is left, +, its Num, / and its Den.
// It fails if one of these numbers is greater than 999999.
func AmountText(a Amount) (string, bool) {
	if !IsAmount(a) {
		return "", false
	}
	units, part := a.Num/a.Den, a.Num%a.Den
	if units > maxTextNumber || a.Den > maxTextNumber {
		return "", false
	}
	text := strconv.Itoa(units)
	if part > 0 {
		text += "+" + strconv.Itoa(part) + "/" + strconv.Itoa(a.Den)
	}
	return text, true
}

// ParseAmount returns the amount with an AmountText. It fails if there is none.
func ParseAmount(s string) (Amount, bool) {
	a, ok := readAmount(s)
	if !ok {
		return Amount{}, false
	}
	// Only the text itself tells a part of 0, a part of 1 or more, or one not in lowest terms.
	if text, ok := AmountText(a); !ok || text != s {
		return Amount{}, false
	}
	return a, true
}

func readAmount(s string) (Amount, bool) {
	unitsText, partText, hasPart := strings.Cut(s, "+")
	units, ok := readNumber(unitsText)
	if !ok || !hasPart {
		return whole(units), ok
	}
	numText, denText, _ := strings.Cut(partText, "/")
	num, numOk := readNumber(numText)
	den, denOk := readNumber(denText)
	if !numOk || !denOk {
		return Amount{}, false
	}
	return MakeAmount(units*den+num, den)
}

// readNumber reads a number in 0..999999 in decimal without superfluous zeros.
func readNumber(s string) (int, bool) {
	n, err := strconv.Atoi(s)
	if err != nil || !inRange(n, 0, maxTextNumber) || strconv.Itoa(n) != s {
		return 0, false
	}
	return n, true
}
