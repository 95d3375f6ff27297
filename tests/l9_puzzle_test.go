package tests

import (
	"fmt"
	"math"
	"math/rand/v2"
	"regexp"
	"slices"
	"strconv"
	"strings"
	"sync"
	"testing"

	"loop.example/g01258/impl"
)

type clue = impl.Clue
type puzzle = impl.Puzzle

func clu(kind, a, b int) clue {
	return clue{Kind: kind, A: a, B: b}
}

func puz(miles int, clues ...clue) puzzle {
	return puzzle{Miles: miles, Clues: clues}
}

// puzzleOf reads a text that is one.
func puzzleOf(t *testing.T, text string) puzzle {
	t.Helper()
	p, ok := parsePuzzleByHand(text)
	if !ok {
		t.Fatalf("no puzzle: %q", text)
	}
	return p
}

// A hiddenRoad is one list of wells, and all that clues can ask of it: fewest has the fewest stops for each tank, -1 if it can't be gone.
type hiddenRoad struct {
	wells  []int
	fewest [11]int
	gap    int
}

// hiddenRoads are all lists of wells of 0 to 10 miles, in lexicographic order.
var hiddenRoads = sync.OnceValue(func() [11][]hiddenRoad {
	var all [11][]hiddenRoad
	for miles := 1; miles <= 10; miles++ {
		for bits := range 1 << (miles - 1) {
			all[miles] = append(all[miles], hide(miles, wellsOfBits(bits)))
		}
		slices.SortFunc(all[miles], func(a, b hiddenRoad) int { return slices.Compare(a.wells, b.wells) })
	}
	return all
})

func wellsOfBits(bits int) []int {
	var wells []int
	for well := 1; bits>>(well-1) > 0; well++ {
		if bits>>(well-1)&1 == 1 {
			wells = append(wells, well)
		}
	}
	return wells
}

// hide tries all stops with each tank.
func hide(miles int, wells []int) hiddenRoad {
	h := hiddenRoad{wells: wells, gap: greatestGapByHand(miles, wells)}
	for tank := range h.fewest {
		h.fewest[tank] = -1
		for bits := range 1 << len(wells) {
			var stops []int
			for _, i := range wellsOfBits(bits) {
				stops = append(stops, wells[i-1])
			}
			if greatestGapByHand(miles, stops) <= tank && (h.fewest[tank] < 0 || len(stops) < h.fewest[tank]) {
				h.fewest[tank] = len(stops)
			}
		}
	}
	return h
}

func greatestGapByHand(miles int, wells []int) int {
	gap, before := 0, 0
	for _, place := range append(slices.Clone(wells), miles) {
		gap, before = max(gap, place-before), place
	}
	return gap
}

func isClueByHand(miles int, c clue) bool {
	if miles < 1 || miles > 10 || c.Kind < 0 || c.Kind > 5 {
		return false
	}
	leastA := []int{1, 1, 0, 1, 1, 1}[c.Kind]
	mostA := []int{miles - 1, miles - 1, miles - 1, miles, miles, miles}[c.Kind]
	mostB := []int{0, 0, 0, miles - 1, 0, 0}[c.Kind]
	return c.A >= leastA && c.A <= mostA && c.B >= 0 && c.B <= mostB
}

func isPuzzleByHand(p puzzle) bool {
	return p.Miles >= 1 && p.Miles <= 10 && len(p.Clues) <= 8 &&
		!slices.ContainsFunc(p.Clues, func(c clue) bool { return !isClueByHand(p.Miles, c) })
}

func areWellsByHand(miles int, wells []int) bool {
	for i, well := range wells {
		if well < 1 || well > 9 || well >= miles || i > 0 && well <= wells[i-1] {
			return false
		}
	}
	return miles >= 1 && miles <= 10
}

// fitsByHand needs a clue.
func fitsByHand(c clue, h hiddenRoad) bool {
	switch c.Kind {
	case 0, 1:
		return slices.Contains(h.wells, c.A) == (c.Kind == 0)
	case 2:
		return len(h.wells) == c.A
	case 3:
		return h.fewest[c.A] == c.B
	case 4:
		return h.fewest[c.A] < 0
	}
	return h.gap == c.A
}

// solutionsByHand needs a puzzle.
func solutionsByHand(p puzzle) [][]int {
	var list [][]int
	for _, h := range hiddenRoads()[p.Miles] {
		if !slices.ContainsFunc(p.Clues, func(c clue) bool { return !fitsByHand(c, h) }) {
			list = append(list, h.wells)
		}
	}
	return list
}

func sureByHand(p puzzle, has bool) []int {
	var sure []int
	for mile := 1; mile < p.Miles; mile++ {
		if !slices.ContainsFunc(solutionsByHand(p), func(wells []int) bool { return slices.Contains(wells, mile) != has }) {
			sure = append(sure, mile)
		}
	}
	return sure
}

func withoutByHand(p puzzle, k int) puzzle {
	return puz(p.Miles, slices.Delete(slices.Clone(p.Clues), k, k+1)...)
}

func harderByHand(p puzzle) puzzle {
	marked := make([]bool, len(p.Clues))
	left := func() puzzle {
		q := puz(p.Miles)
		for i, c := range p.Clues {
			if !marked[i] {
				q.Clues = append(q.Clues, c)
			}
		}
		return q
	}
	for i := range marked {
		marked[i] = true
		marked[i] = len(solutionsByHand(left())) == 1
	}
	return left()
}

// madeByHand needs numbers of which a puzzle can be made.
func madeByHand(miles int, wells []int, clues, seed int) puzzle {
	h := hide(miles, wells)
	var z []int
	for range 2 * clues {
		seed = (seed*179 + 2357) % 10009
		z = append(z, seed)
	}
	p := puz(miles)
	for at := 0; len(p.Clues) < clues; at++ {
		c := clu(2, len(wells), 0)
		switch z[at] % 4 {
		case 0:
			at++
			c = clu(1, z[at]%(miles-1)+1, 0)
			if slices.Contains(wells, c.A) {
				c.Kind = 0
			}
		case 2:
			at++
			c = clu(4, z[at]%miles+1, 0)
			if stops := h.fewest[c.A]; stops >= 0 {
				c.Kind, c.B = 3, stops
			}
		case 3:
			c = clu(5, h.gap, 0)
		}
		p.Clues = append(p.Clues, c)
	}
	return p
}

func puzzleTextByHand(p puzzle) string {
	text := fmt.Sprintf("%d:", p.Miles)
	for i, c := range p.Clues {
		if i > 0 {
			text += ","
		}
		text += fmt.Sprintf("%d.%d.%d", c.Kind, c.A, c.B)
	}
	return text
}

var puzzleShape = regexp.MustCompile(`^([1-9]|10):(([0-5]\.([0-9]|10)\.[0-9])(,[0-5]\.([0-9]|10)\.[0-9])*)?\z`)

func parsePuzzleByHand(s string) (puzzle, bool) {
	if !puzzleShape.MatchString(s) {
		return puzzle{}, false
	}
	var p puzzle
	for i, digits := range regexp.MustCompile(`[0-9]+`).FindAllString(s, -1) {
		n, _ := strconv.Atoi(digits)
		switch {
		case i == 0:
			p.Miles = n
		case i%3 == 1:
			p.Clues = append(p.Clues, clu(n, 0, 0))
		case i%3 == 2:
			p.Clues[len(p.Clues)-1].A = n
		default:
			p.Clues[len(p.Clues)-1].B = n
		}
	}
	if !isPuzzleByHand(p) {
		return puzzle{}, false
	}
	return p, true
}

// puzzleNumbers are numbers at, below and above the limits of this chapter.
func puzzleNumbers() []int {
	return append(hostileInts(), 4, 5, 6, 8, 9, 9998, 9999, 10000, 10008, 10009, math.MinInt+10, math.MaxInt-9)
}

// cluesOf are all clues of a road.
func cluesOf(miles int) []clue {
	var list []clue
	for kind := range 6 {
		for a := range 11 {
			for b := range 10 {
				if c := clu(kind, a, b); isClueByHand(miles, c) {
					list = append(list, c)
				}
			}
		}
	}
	return list
}

func expectPuzzle(t *testing.T, what string, got puzzle, ok bool, want puzzle, wantOk bool) {
	t.Helper()
	expect(t, what+" Miles", got.Miles, ok, want.Miles, wantOk)
	expectList(t, what+" Clues", got.Clues, ok, want.Clues, wantOk)
}

func expectLists(t *testing.T, what string, got [][]int, ok bool, want [][]int, wantOk bool) {
	t.Helper()
	if !slices.EqualFunc(got, want, slices.Equal) || ok != wantOk {
		t.Errorf("%s: got %v, %v; want %v, %v", what, got, ok, want, wantOk)
	}
}

// checkPuzzle calls all functions of a puzzle that may be none, with room behind its clues that must not be touched.
func checkPuzzle(t *testing.T, p puzzle) {
	t.Helper()
	kept := append(slices.Clone(p.Clues), clu(-7, -8, -9), clu(-7, -8, -9))
	room := slices.Clone(kept)
	given := puz(p.Miles, room[:len(p.Clues)]...)
	if isPuzzleByHand(p) {
		checkValidPuzzle(t, given)
	} else {
		checkNoPuzzle(t, given)
	}
	if !slices.Equal(room, kept) {
		t.Error("the clues have been changed", p.Miles, kept[:min(len(kept), 20)])
	}
}

func checkValidPuzzle(t *testing.T, p puzzle) {
	t.Helper()
	text := puzzleTextByHand(p)
	want := solutionsByHand(p)
	expect(t, "IsPuzzle "+text, impl.IsPuzzle(p), true, true, true)
	got, ok := impl.Solutions(p)
	expectLists(t, "Solutions "+text, got, ok, want, true)
	count, ok := impl.CountSolutions(p)
	expect(t, "CountSolutions "+text, count, ok, len(want), true)
	solved, ok := impl.IsSolved(p)
	expect(t, "IsSolved "+text, solved, ok, len(want) == 1, true)
	checkSure(t, p, text, want)
	checkClues(t, p, text, len(want))
	checkHarder(t, p, text, want)
	gotText, ok := impl.PuzzleText(p)
	expect(t, "PuzzleText "+text, gotText, ok, text, true)
	back, ok := impl.ParsePuzzle(text)
	expectPuzzle(t, "ParsePuzzle "+text, back, ok, p, true)
}

func checkSure(t *testing.T, p puzzle, text string, want [][]int) {
	t.Helper()
	first, ok := impl.FirstSolution(p)
	wells, wellsOk := impl.SureWells(p)
	dry, dryOk := impl.SureDry(p)
	if len(want) == 0 {
		expectList(t, "FirstSolution "+text, first, ok, nil, false)
		expectList(t, "SureWells "+text, wells, wellsOk, nil, false)
		expectList(t, "SureDry "+text, dry, dryOk, nil, false)
		return
	}
	expectList(t, "FirstSolution "+text, first, ok, want[0], true)
	expectList(t, "SureWells "+text, wells, wellsOk, sureByHand(p, true), true)
	expectList(t, "SureDry "+text, dry, dryOk, sureByHand(p, false), true)
}

// checkClues takes clues away one by one, and the last ones together.
func checkClues(t *testing.T, p puzzle, text string, all int) {
	t.Helper()
	var needless, left []int
	for k := range p.Clues {
		less := withoutByHand(p, k)
		if len(solutionsByHand(less)) == all {
			needless = append(needless, k)
		}
		left = append(left, len(solutionsByHand(puz(p.Miles, p.Clues[:k]...))))
		got, ok := impl.DropClue(p, k)
		expectPuzzle(t, fmt.Sprint("DropClue ", text, " ", k), got, ok, less, true)
	}
	for _, k := range []int{math.MinInt, -1, len(p.Clues), len(p.Clues) + 1, math.MaxInt} {
		got, ok := impl.DropClue(p, k)
		expectPuzzle(t, fmt.Sprint("DropClue ", text, " ", k), got, ok, puzzle{}, false)
	}
	got, ok := impl.NeedlessClues(p)
	expectList(t, "NeedlessClues "+text, got, ok, needless, true)
	got, ok = impl.LeftByClues(p)
	expectList(t, "LeftByClues "+text, got, ok, append(left, all), true)
	for _, c := range []clue{clu(5, 1, 0), clu(2, p.Miles-1, 0), clu(0, 1, 0), clu(2, p.Miles, 0), clu(6, 1, 0)} {
		checkAdded(t, p, c)
	}
}

// checkAdded adds a clue that may be none, and drops it again.
func checkAdded(t *testing.T, p puzzle, c clue) {
	t.Helper()
	what := fmt.Sprint("AddClue ", p.Miles, " to clues: ", len(p.Clues), " ", c)
	more, ok := impl.AddClue(p, c)
	if !isPuzzleByHand(p) || !isClueByHand(p.Miles, c) || len(p.Clues) == 8 {
		expectPuzzle(t, what, more, ok, puzzle{}, false)
		return
	}
	expectPuzzle(t, what, more, ok, puz(p.Miles, append(slices.Clone(p.Clues), c)...), true)
	less, ok := impl.DropClue(more, len(p.Clues))
	expectPuzzle(t, what+" and DropClue", less, ok, p, true)
}

func checkHarder(t *testing.T, p puzzle, text string, want [][]int) {
	t.Helper()
	harder, ok := impl.HarderPuzzle(p)
	if len(want) != 1 {
		expectPuzzle(t, "HarderPuzzle "+text, harder, ok, puzzle{}, false)
		return
	}
	expectPuzzle(t, "HarderPuzzle "+text, harder, ok, harderByHand(p), true)
	solved, ok := impl.IsSolved(harder)
	expect(t, "IsSolved of HarderPuzzle "+text, solved, ok, true, true)
	first, ok := impl.FirstSolution(harder)
	expectList(t, "FirstSolution of HarderPuzzle "+text, first, ok, want[0], true)
	again, ok := impl.HarderPuzzle(harder)
	expectPuzzle(t, "HarderPuzzle twice "+text, again, ok, harder, true)
}

func checkNoPuzzle(t *testing.T, p puzzle) {
	t.Helper()
	what := fmt.Sprintf("of no puzzle, %d miles and %d clues, %v", p.Miles, len(p.Clues), p.Clues[:min(len(p.Clues), 9)])
	expect(t, "IsPuzzle "+what, impl.IsPuzzle(p), true, false, true)
	all, ok := impl.Solutions(p)
	expectLists(t, "Solutions "+what, all, ok, nil, false)
	count, ok := impl.CountSolutions(p)
	expect(t, "CountSolutions "+what, count, ok, 0, false)
	for name, call := range puzzleLists() {
		list, ok := call(p)
		expectList(t, name+" "+what, list, ok, nil, false)
	}
	solved, ok := impl.IsSolved(p)
	expect(t, "IsSolved "+what, solved, ok, false, false)
	for _, k := range []int{math.MinInt, -1, 0, 1, len(p.Clues) - 1, len(p.Clues), math.MaxInt} {
		less, ok := impl.DropClue(p, k)
		expectPuzzle(t, "DropClue "+what, less, ok, puzzle{}, false)
	}
	for _, c := range []clue{clu(2, 0, 0), clu(5, 1, 0), clu(0, 1, 0), clu(6, 1, 0)} {
		more, ok := impl.AddClue(p, c)
		expectPuzzle(t, "AddClue "+what, more, ok, puzzle{}, false)
	}
	harder, ok := impl.HarderPuzzle(p)
	expectPuzzle(t, "HarderPuzzle "+what, harder, ok, puzzle{}, false)
	text, ok := impl.PuzzleText(p)
	expect(t, "PuzzleText "+what, text, ok, "", false)
}

// puzzleLists are all functions of a puzzle that return one list of numbers.
func puzzleLists() map[string]func(puzzle) ([]int, bool) {
	return map[string]func(puzzle) ([]int, bool){
		"FirstSolution": impl.FirstSolution, "SureWells": impl.SureWells, "SureDry": impl.SureDry,
		"NeedlessClues": impl.NeedlessClues, "LeftByClues": impl.LeftByClues,
	}
}

// checkFit holds wells, which may be none, with room behind them, against a clue, which may be none.
func checkFit(t *testing.T, miles int, c clue, wells []int) {
	t.Helper()
	kept := append(slices.Clone(wells), -7, -7)
	room := slices.Clone(kept)
	fits, ok := impl.DoesFit(miles, c, room[:len(wells)])
	wantOk := isClueByHand(miles, c) && areWellsByHand(miles, wells)
	want := wantOk && fitsByHand(c, hide(miles, wells))
	if fits != want || ok != wantOk || !slices.Equal(room, kept) {
		t.Errorf("DoesFit %d %v %v: got %v, %v; want %v, %v", miles, c, wells[:min(len(wells), 12)], fits, ok, want, wantOk)
	}
}

// checkMade makes a puzzle of numbers and wells that may be none, with room behind the wells.
func checkMade(t *testing.T, miles int, wells []int, clues, seed int) {
	t.Helper()
	what := fmt.Sprint("MakePuzzle ", miles, " ", wells[:min(len(wells), 12)], " ", clues, " ", seed)
	kept := append(slices.Clone(wells), -7, -7)
	room := slices.Clone(kept)
	p, ok := impl.MakePuzzle(miles, room[:len(wells)], clues, seed)
	if !slices.Equal(room, kept) {
		t.Error("the wells have been changed", what)
	}
	if miles < 2 || !areWellsByHand(miles, wells) || clues < 0 || clues > 8 || seed < 0 || seed > 9999 {
		expectPuzzle(t, what, p, ok, puzzle{}, false)
		return
	}
	expectPuzzle(t, what, p, ok, madeByHand(miles, wells, clues, seed), true)
	for _, c := range p.Clues {
		fits, ok := impl.DoesFit(miles, c, wells)
		expect(t, fmt.Sprint(what, " fits ", c), fits, ok, true, true)
	}
}

func TestPuzzleExample(t *testing.T) {
	p, ok := impl.ParsePuzzle("5:2.2.0,3.2.2")
	expectPuzzle(t, "ParsePuzzle", p, ok, puz(5, clu(2, 2, 0), clu(3, 2, 2)), true)
	all, ok := impl.Solutions(p)
	expectLists(t, "Solutions", all, ok, [][]int{{1, 3}, {2, 3}, {2, 4}}, true)
	sure, ok := impl.SureWells(p)
	expectList(t, "SureWells", sure, ok, nil, true)
	sure, ok = impl.SureDry(p)
	expectList(t, "SureDry", sure, ok, nil, true)
	longer, ok := impl.AddClue(p, clu(0, 4, 0))
	expectPuzzle(t, "AddClue", longer, ok, puz(5, clu(2, 2, 0), clu(3, 2, 2), clu(0, 4, 0)), true)
	all, ok = impl.Solutions(longer)
	expectLists(t, "Solutions of the longer one", all, ok, [][]int{{2, 4}}, true)
	left, ok := impl.LeftByClues(longer)
	expectList(t, "LeftByClues", left, ok, []int{16, 6, 3, 1}, true)
	if impl.MaxMiles != 10 || impl.MaxClues != 8 {
		t.Error("limits", impl.MaxMiles, impl.MaxClues)
	}
}

// TestIsClueAtTheEdges goes through the ends of what A and B may be for each kind.
func TestIsClueAtTheEdges(t *testing.T) {
	for _, miles := range []int{1, 2, 3, 9, 10} {
		rows := []struct {
			kind, leastA, mostA, mostB int
		}{
			{0, 1, miles - 1, 0}, {1, 1, miles - 1, 0}, {2, 0, miles - 1, 0}, {3, 1, miles, miles - 1}, {4, 1, miles, 0}, {5, 1, miles, 0},
		}
		for _, r := range rows {
			for _, a := range []int{r.leastA - 1, r.leastA, r.mostA, r.mostA + 1} {
				for _, b := range []int{-1, 0, 1, r.mostB, r.mostB + 1} {
					c := clu(r.kind, a, b)
					want := a >= r.leastA && a <= r.mostA && b >= 0 && b <= r.mostB
					expect(t, fmt.Sprint("IsClue ", miles, " ", c), impl.IsClue(miles, c), true, want, true)
				}
			}
			expect(t, "IsClue 0", impl.IsClue(0, clu(r.kind, r.leastA, 0)), true, false, true)
			expect(t, "IsClue 11", impl.IsClue(11, clu(r.kind, r.leastA, 0)), true, false, true)
		}
		for _, kind := range []int{-1, 6, 7} {
			expect(t, fmt.Sprint("IsClue of the kind ", kind), impl.IsClue(miles, clu(kind, 1, 0)), true, false, true)
		}
	}
}

func TestCluesOfOneMile(t *testing.T) {
	rows := []struct {
		c    clue
		want bool
	}{
		{clu(0, 0, 0), false}, {clu(0, 1, 0), false}, {clu(1, 0, 0), false}, {clu(1, 1, 0), false},
		{clu(2, 0, 0), true}, {clu(2, 1, 0), false}, {clu(3, 0, 0), false}, {clu(3, 1, 0), true}, {clu(3, 1, 1), false}, {clu(3, 2, 0), false},
		{clu(4, 0, 0), false}, {clu(4, 1, 0), true}, {clu(4, 2, 0), false}, {clu(5, 0, 0), false}, {clu(5, 1, 0), true}, {clu(5, 2, 0), false},
	}
	for _, r := range rows {
		expect(t, fmt.Sprint("IsClue 1 ", r.c), impl.IsClue(1, r.c), true, r.want, true)
		checkFit(t, 1, r.c, nil)
		checkPuzzle(t, puz(1, r.c))
	}
}

func TestIsClueOfAnyNumbers(t *testing.T) {
	for _, miles := range puzzleNumbers() {
		for _, kind := range append(numbers(-2, 8), math.MinInt, math.MaxInt) {
			for _, a := range puzzleNumbers() {
				for _, b := range puzzleNumbers() {
					if c := clu(kind, a, b); impl.IsClue(miles, c) != isClueByHand(miles, c) {
						t.Error("IsClue", miles, c, impl.IsClue(miles, c))
					}
				}
			}
		}
	}
}

// TestDoesFitAtTheEdges tells results without the stops that the other tests are made with.
func TestDoesFitAtTheEdges(t *testing.T) {
	all := numbers(1, 9)
	rows := []struct {
		miles    int
		c        clue
		wells    []int
		want, ok bool
	}{
		{1, clu(2, 0, 0), nil, true, true}, {1, clu(3, 1, 0), nil, true, true}, {1, clu(4, 1, 0), nil, false, true}, {1, clu(5, 1, 0), nil, true, true},
		{1, clu(2, 0, 0), []int{}, true, true}, {1, clu(2, 0, 0), []int{1}, false, false}, {1, clu(0, 1, 0), nil, false, false}, {1, clu(1, 1, 0), nil, false, false},
		{2, clu(0, 1, 0), nil, false, true}, {2, clu(0, 1, 0), []int{1}, true, true}, {2, clu(1, 1, 0), nil, true, true}, {2, clu(1, 1, 0), []int{1}, false, true},
		{2, clu(3, 1, 0), nil, false, true}, {2, clu(3, 1, 1), nil, false, true}, {2, clu(3, 1, 1), []int{1}, true, true}, {2, clu(3, 1, 0), []int{1}, false, true},
		{2, clu(3, 2, 0), nil, true, true}, {2, clu(3, 2, 0), []int{1}, true, true}, {2, clu(4, 1, 0), nil, true, true}, {2, clu(4, 1, 0), []int{1}, false, true},
		{2, clu(5, 2, 0), nil, true, true}, {2, clu(5, 2, 0), []int{1}, false, true}, {2, clu(5, 1, 0), []int{1}, true, true},
		{5, clu(0, 1, 0), []int{1, 4}, true, true}, {5, clu(0, 4, 0), []int{1, 4}, true, true}, {5, clu(0, 3, 0), []int{1, 4}, false, true},
		{5, clu(1, 1, 0), []int{1, 4}, false, true}, {5, clu(1, 4, 0), []int{1, 4}, false, true}, {5, clu(1, 2, 0), []int{1, 4}, true, true},
		{5, clu(2, 0, 0), []int{1, 4}, false, true}, {5, clu(2, 2, 0), []int{1, 4}, true, true}, {5, clu(2, 4, 0), []int{1, 2, 3, 4}, true, true}, {5, clu(2, 0, 0), nil, true, true},
		{5, clu(3, 3, 1), []int{1, 2, 3}, true, true}, {5, clu(3, 3, 2), []int{1, 2, 3}, false, true}, {5, clu(3, 2, 2), []int{1, 2, 3}, true, true}, {5, clu(3, 1, 3), []int{1, 2, 3}, false, true},
		{5, clu(4, 1, 0), []int{1, 2, 3}, true, true}, {5, clu(4, 2, 0), []int{1, 2, 3}, false, true},
		{5, clu(5, 2, 0), []int{1, 2, 3}, true, true}, {5, clu(5, 3, 0), []int{1, 4}, true, true}, {5, clu(5, 3, 0), []int{3}, true, true}, {5, clu(5, 4, 0), []int{4}, true, true}, {5, clu(5, 4, 0), []int{1}, true, true},
		{5, clu(2, 1, 0), []int{0}, false, false}, {5, clu(2, 1, 0), []int{5}, false, false}, {5, clu(2, 1, 0), []int{-1}, false, false}, {5, clu(2, 2, 0), []int{2, 2}, false, false},
		{5, clu(2, 2, 0), []int{3, 1}, false, false}, {5, clu(2, 3, 0), []int{0, 1, 4}, false, false}, {5, clu(2, 3, 0), []int{1, 4, 5}, false, false}, {5, clu(2, 2, 0), []int{1, 4}, true, true},
		{10, clu(3, 1, 9), all, true, true}, {10, clu(3, 1, 8), all, false, true}, {10, clu(3, 2, 4), all, true, true}, {10, clu(3, 3, 3), all, true, true}, {10, clu(3, 5, 1), all, true, true},
		{10, clu(3, 9, 1), all, true, true}, {10, clu(3, 10, 0), all, true, true}, {10, clu(4, 1, 0), all, false, true}, {10, clu(5, 1, 0), all, true, true}, {10, clu(2, 9, 0), all, true, true},
		{10, clu(3, 10, 0), nil, true, true}, {10, clu(3, 9, 0), nil, false, true}, {10, clu(4, 9, 0), nil, true, true}, {10, clu(4, 10, 0), nil, false, true}, {10, clu(5, 10, 0), nil, true, true},
		{10, clu(3, 9, 1), []int{1, 9}, true, true}, {10, clu(3, 8, 2), []int{1, 9}, true, true}, {10, clu(3, 8, 1), []int{1, 9}, false, true}, {10, clu(4, 7, 0), []int{1, 9}, true, true}, {10, clu(5, 8, 0), []int{1, 9}, true, true},
		{10, clu(2, 9, 0), numbers(1, 10), false, false}, {10, clu(2, 9, 0), numbers(0, 9), false, false},
		{0, clu(2, 0, 0), nil, false, false}, {11, clu(2, 0, 0), nil, false, false}, {11, clu(5, 10, 0), []int{5}, false, false}, {-1, clu(2, 0, 0), nil, false, false},
		{5, clu(-1, 1, 0), nil, false, false}, {5, clu(6, 1, 0), nil, false, false}, {5, clu(2, 1, 1), nil, false, false}, {5, clu(2, 5, 0), nil, false, false},
	}
	for _, r := range rows {
		got, ok := impl.DoesFit(r.miles, r.c, r.wells)
		expect(t, fmt.Sprint("DoesFit ", r.miles, " ", r.c, " ", r.wells), got, ok, r.want, r.ok)
		checkFit(t, r.miles, r.c, r.wells)
	}
}

// TestEveryFit holds all wells of all roads against all clues.
func TestEveryFit(t *testing.T) {
	for miles := 1; miles <= 10; miles++ {
		clues := cluesOf(miles)
		for _, h := range hiddenRoads()[miles] {
			for _, c := range clues {
				fits, ok := impl.DoesFit(miles, c, h.wells)
				if want := fitsByHand(c, h); fits != want || !ok {
					t.Error("DoesFit", miles, c, h.wells, fits, ok, want)
				}
			}
		}
	}
}

// TestFitOfAnyWells gives wells that are none, and hostile numbers.
func TestFitOfAnyWells(t *testing.T) {
	for _, a := range puzzleNumbers() {
		for _, b := range puzzleNumbers() {
			checkFit(t, a, clu(2, 1, 0), []int{b})
			checkFit(t, 10, clu(2, 2, 0), []int{a, b})
			checkFit(t, 10, clu(5, 3, 0), []int{2, a, b})
			checkFit(t, 3, clu(3, 2, 1), []int{a, b})
			checkFit(t, a, clu(b, 1, 0), []int{1})
			checkFit(t, 7, clu(3, a, b), []int{1, 5})
			checkFit(t, a, clu(2, b, 0), nil)
		}
	}
	for _, count := range []int{8, 9, 10, 11, 1000, 100000} {
		for _, miles := range []int{9, 10, 11, math.MaxInt} {
			checkFit(t, miles, clu(2, 1, 0), numbers(1, count))
			checkFit(t, miles, clu(2, 1, 0), numbers(0, count))
			checkFit(t, miles, clu(2, 1, 0), slices.Repeat([]int{1}, count))
		}
	}
}

// TestPuzzlesAtTheEdges tells results without the lists of wells that the other tests are made with.
func TestPuzzlesAtTheEdges(t *testing.T) {
	rows := []struct {
		text                 string
		solutions            [][]int
		wells, dry, needless []int
		left                 []int
		harder               string
	}{
		{"1:", [][]int{nil}, nil, nil, nil, []int{1}, "1:"},
		{"1:2.0.0,5.1.0,3.1.0", [][]int{nil}, nil, nil, []int{0, 1, 2}, []int{1, 1, 1, 1}, "1:"},
		{"1:4.1.0", nil, nil, nil, nil, []int{1, 0}, ""},
		{"1:4.1.0,4.1.0", nil, nil, nil, []int{0, 1}, []int{1, 0, 0}, ""},
		{"2:", [][]int{nil, {1}}, nil, nil, nil, []int{2}, ""},
		{"2:1.1.0", [][]int{nil}, nil, []int{1}, nil, []int{2, 1}, "2:1.1.0"},
		{"2:2.0.0", [][]int{nil}, nil, []int{1}, nil, []int{2, 1}, "2:2.0.0"},
		{"2:0.1.0", [][]int{{1}}, []int{1}, nil, nil, []int{2, 1}, "2:0.1.0"},
		{"2:0.1.0,2.1.0", [][]int{{1}}, []int{1}, nil, []int{0, 1}, []int{2, 1, 1}, "2:2.1.0"},
		{"2:0.1.0,2.1.0,5.1.0", [][]int{{1}}, []int{1}, nil, []int{0, 1, 2}, []int{2, 1, 1, 1}, "2:5.1.0"},
		{"2:3.2.0,0.1.0,3.2.0", [][]int{{1}}, []int{1}, nil, []int{0, 2}, []int{2, 2, 1, 1}, "2:0.1.0"},
		{"2:0.1.0,1.1.0", nil, nil, nil, nil, []int{2, 1, 0}, ""},
		{"3:", [][]int{nil, {1}, {1, 2}, {2}}, nil, nil, nil, []int{4}, ""},
		{"3:0.1.0,1.1.0,0.2.0", nil, nil, nil, []int{2}, []int{4, 2, 0, 0}, ""},
		{"3:0.2.0", [][]int{{1, 2}, {2}}, []int{2}, nil, nil, []int{4, 2}, ""},
		{"3:1.2.0", [][]int{nil, {1}}, nil, []int{2}, nil, []int{4, 2}, ""},
		{"3:5.2.0", [][]int{{1}, {2}}, nil, nil, nil, []int{4, 2}, ""},
		{"4:", [][]int{nil, {1}, {1, 2}, {1, 2, 3}, {1, 3}, {2}, {2, 3}, {3}}, nil, nil, nil, []int{8}, ""},
		{"4:4.2.0", [][]int{nil, {1}, {3}}, nil, []int{2}, nil, []int{8, 3}, ""},
		{"5:2.2.0,3.2.2", [][]int{{1, 3}, {2, 3}, {2, 4}}, nil, nil, nil, []int{16, 6, 3}, ""},
		{"5:2.2.0,3.2.2,0.4.0", [][]int{{2, 4}}, []int{2, 4}, []int{1, 3}, nil, []int{16, 6, 3, 1}, "5:2.2.0,3.2.2,0.4.0"},
		{"10:3.1.9", [][]int{numbers(1, 9)}, numbers(1, 9), nil, nil, []int{512, 1}, "10:3.1.9"},
		{"10:5.10.0", [][]int{nil}, nil, numbers(1, 9), nil, []int{512, 1}, "10:5.10.0"},
		{"10:5.9.0", [][]int{{1}, {9}}, nil, numbers(2, 8), nil, []int{512, 2}, ""},
	}
	for _, r := range rows {
		p, ok := impl.ParsePuzzle(r.text)
		expectPuzzle(t, "ParsePuzzle "+r.text, p, ok, puzzleOf(t, r.text), true)
		solutions, ok := impl.Solutions(p)
		expectLists(t, "Solutions "+r.text, solutions, ok, r.solutions, true)
		some := len(r.solutions) > 0
		wells, ok := impl.SureWells(p)
		expectList(t, "SureWells "+r.text, wells, ok, r.wells, some)
		dry, ok := impl.SureDry(p)
		expectList(t, "SureDry "+r.text, dry, ok, r.dry, some)
		needless, ok := impl.NeedlessClues(p)
		expectList(t, "NeedlessClues "+r.text, needless, ok, r.needless, true)
		left, ok := impl.LeftByClues(p)
		expectList(t, "LeftByClues "+r.text, left, ok, r.left, true)
		harder, ok := impl.HarderPuzzle(p)
		text, _ := impl.PuzzleText(harder)
		expect(t, "HarderPuzzle "+r.text, text, ok, r.harder, r.harder != "")
		checkPuzzle(t, p)
	}
}

// TestPuzzlesWithoutClues finds all lists of wells of all roads.
func TestPuzzlesWithoutClues(t *testing.T) {
	for miles := 1; miles <= 10; miles++ {
		checkPuzzle(t, puz(miles))
		checkPuzzle(t, puzzle{Miles: miles, Clues: []clue{}})
		count, ok := impl.CountSolutions(puz(miles))
		expect(t, fmt.Sprint("CountSolutions ", miles), count, ok, 1<<(miles-1), true)
	}
}

func TestPuzzlesOfOneClue(t *testing.T) {
	for miles := 1; miles <= 10; miles++ {
		for _, c := range cluesOf(miles) {
			checkPuzzle(t, puz(miles, c))
		}
	}
}

func TestPuzzlesOfTwoClues(t *testing.T) {
	for miles := 1; miles <= 4; miles++ {
		for _, c := range cluesOf(miles) {
			for _, d := range cluesOf(miles) {
				checkPuzzle(t, puz(miles, c, d))
			}
		}
	}
}

// puzzleByChance has clues of which some may be wrong for the wells, so that there may be no solution.
func puzzleByChance(draw *rand.Rand, miles, clues, wrong int) puzzle {
	all := cluesOf(miles)
	roads := hiddenRoads()[miles]
	h := roads[draw.IntN(len(roads))]
	p := puz(miles)
	for len(p.Clues) < clues {
		if c := all[draw.IntN(len(all))]; draw.IntN(100) < wrong || fitsByHand(c, h) {
			p.Clues = append(p.Clues, c)
		}
	}
	return p
}

func TestPuzzlesByChance(t *testing.T) {
	draw := rand.New(rand.NewPCG(9, 1))
	none, solved := 0, 0
	for i := range 1200 {
		miles := 2 + draw.IntN(7)
		if i%10 == 0 {
			miles = 9 + draw.IntN(2)
		}
		p := puzzleByChance(draw, miles, draw.IntN(9), []int{0, 0, 2, 100}[draw.IntN(4)])
		checkPuzzle(t, p)
		switch len(solutionsByHand(p)) {
		case 0:
			none++
		case 1:
			solved++
		}
	}
	if none < 200 || solved < 200 {
		t.Error("too few puzzles without a solution, or with one", none, solved)
	}
}

// TestSolutionsFitAllClues asks DoesFit alone: all clues fit each solution, and some clue does not fit any other wells.
func TestSolutionsFitAllClues(t *testing.T) {
	draw := rand.New(rand.NewPCG(9, 2))
	for range 150 {
		p := puzzleByChance(draw, 1+draw.IntN(10), draw.IntN(9), 5)
		all, ok := impl.Solutions(p)
		if !ok || !slices.IsSortedFunc(all, func(a, b []int) int { return slices.Compare(a, b) }) {
			t.Error("Solutions", p, all, ok)
		}
		for _, h := range hiddenRoads()[p.Miles] {
			fitsAll := true
			for _, c := range p.Clues {
				fits, ok := impl.DoesFit(p.Miles, c, h.wells)
				fitsAll = fitsAll && fits && ok
			}
			isSolution := slices.ContainsFunc(all, func(wells []int) bool { return slices.Equal(wells, h.wells) })
			expect(t, fmt.Sprint("a solution ", p, h.wells), isSolution, ok, fitsAll, true)
		}
	}
}

// TestHarderPuzzlesAreSolvedBySameWells makes puzzles of wells, and adds clues until they are solved.
func TestHarderPuzzlesAreSolvedBySameWells(t *testing.T) {
	harder := 0
	for miles := 2; miles <= 10; miles++ {
		for i, h := range hiddenRoads()[miles] {
			if miles > 6 && i%23 != 0 {
				continue
			}
			p, _ := impl.MakePuzzle(miles, h.wells, 8, 37*i%10000)
			if solved, _ := impl.IsSolved(p); !solved {
				continue
			}
			less, ok := impl.HarderPuzzle(p)
			first, firstOk := impl.FirstSolution(less)
			expectList(t, fmt.Sprint("FirstSolution of HarderPuzzle ", p), first, ok && firstOk, h.wells, true)
			count, ok := impl.CountSolutions(less)
			expect(t, fmt.Sprint("CountSolutions of HarderPuzzle ", p), count, ok, 1, true)
			needless, ok := impl.NeedlessClues(less)
			expectList(t, fmt.Sprint("NeedlessClues of HarderPuzzle ", p), needless, ok, nil, true)
			if len(less.Clues) < len(p.Clues) {
				harder++
			}
		}
	}
	if harder < 30 {
		t.Error("only", harder, "puzzles have been made harder")
	}
}

func TestMostClues(t *testing.T) {
	c := clu(5, 3, 0)
	for count := range 11 {
		p := puz(7, slices.Repeat([]clue{c}, count)...)
		expect(t, fmt.Sprint("IsPuzzle of clues: ", count), impl.IsPuzzle(p), true, count <= 8, true)
		checkPuzzle(t, p)
		more, ok := impl.AddClue(p, clu(0, 6, 0))
		expect(t, fmt.Sprint("AddClue to clues: ", count), len(more.Clues), ok, []int{1, 2, 3, 4, 5, 6, 7, 8, 0, 0, 0}[count], count < 8)
	}
	checkPuzzle(t, puz(7, slices.Repeat([]clue{c}, 100000)...))
	checkPuzzle(t, puz(0, slices.Repeat([]clue{{}}, 100000)...))
}

// wrongPuzzles are no puzzles, each for one reason alone.
func wrongPuzzles() []puzzle {
	list := []puzzle{{}, puz(0), puz(11), puz(-1), puz(math.MinInt), puz(math.MaxInt), puz(0, clu(2, 0, 0)), puz(11, clu(2, 0, 0))}
	wrong := []clue{
		clu(-1, 1, 0), clu(6, 1, 0), clu(0, 0, 0), clu(0, 5, 0), clu(1, 0, 0), clu(1, 5, 0), clu(2, -1, 0), clu(2, 5, 0),
		clu(3, 0, 0), clu(3, 6, 0), clu(3, 1, -1), clu(3, 1, 5), clu(4, 0, 0), clu(4, 6, 0), clu(5, 0, 0), clu(5, 6, 0),
		clu(0, 1, 1), clu(1, 1, 1), clu(2, 1, 1), clu(4, 1, 1), clu(5, 1, 1), clu(0, 1, -1), clu(5, 1, -1),
		clu(math.MinInt, math.MinInt, math.MinInt), clu(math.MaxInt, math.MaxInt, math.MaxInt), clu(3, math.MaxInt, math.MinInt), clu(2, math.MinInt, 0),
	}
	good := clu(2, 2, 0)
	for _, c := range wrong {
		list = append(list, puz(5, c), puz(5, good, c), puz(5, c, good), puz(5, good, c, good, good), puz(5, good, good, good, good, good, good, good, c))
	}
	return append(list, puz(5, slices.Repeat([]clue{good}, 9)...))
}

func TestWrongPuzzles(t *testing.T) {
	for _, p := range wrongPuzzles() {
		if isPuzzleByHand(p) {
			t.Error("a wrong puzzle is none", p)
		}
		checkPuzzle(t, p)
	}
}

// TestHostilePuzzles has hostile numbers everywhere.
func TestHostilePuzzles(t *testing.T) {
	draw := rand.New(rand.NewPCG(9, 3))
	ints := append(puzzleNumbers(), numbers(0, 5)...)
	number := func() int { return ints[draw.IntN(len(ints))] }
	for _, miles := range ints {
		checkPuzzle(t, puz(miles))
		for _, a := range ints {
			checkPuzzle(t, puz(miles, clu(2, a, 0)))
			checkPuzzle(t, puz(5, clu(miles, a, 0)))
			checkPuzzle(t, puz(3, clu(3, miles, a)))
			checkPuzzle(t, puz(3, clu(5, 1, 0), clu(4, miles, a)))
		}
	}
	for range 3000 {
		p := puz(number())
		for range draw.IntN(12) {
			p.Clues = append(p.Clues, clu(number(), number(), number()))
		}
		checkPuzzle(t, p)
	}
}

func TestAddClueOfAnyNumbers(t *testing.T) {
	p := puz(4, clu(2, 2, 0), clu(0, 3, 0))
	for _, kind := range append(numbers(-2, 8), math.MinInt, math.MaxInt) {
		for _, a := range puzzleNumbers() {
			for _, b := range puzzleNumbers() {
				checkAdded(t, p, clu(kind, a, b))
			}
		}
	}
	for _, k := range puzzleNumbers() {
		less, ok := impl.DropClue(p, k)
		if k == 0 || k == 1 {
			expectPuzzle(t, fmt.Sprint("DropClue ", k), less, ok, puz(4, p.Clues[1-k]), true)
		} else {
			expectPuzzle(t, fmt.Sprint("DropClue ", k), less, ok, puzzle{}, false)
		}
	}
}

// TestAddAndDropUndo takes each clue out of a puzzle and adds it again behind the others.
func TestAddAndDropUndo(t *testing.T) {
	draw := rand.New(rand.NewPCG(9, 4))
	for range 300 {
		p := puzzleByChance(draw, 2+draw.IntN(5), 1+draw.IntN(8), 50)
		last := len(p.Clues) - 1
		less, ok := impl.DropClue(p, last)
		back, backOk := impl.AddClue(less, p.Clues[last])
		expectPuzzle(t, "AddClue of DropClue", back, ok && backOk, p, true)
		for k, c := range p.Clues {
			less, _ := impl.DropClue(p, k)
			back, ok := impl.AddClue(less, c)
			want := append(slices.Delete(slices.Clone(p.Clues), k, k+1), c)
			expectPuzzle(t, fmt.Sprint("AddClue of DropClue ", k), back, ok, puz(p.Miles, want...), true)
		}
	}
}

// TestMadePuzzlesAtTheEdges tells puzzles whose numbers have been reckoned one by one: 2357, 3882, 6614, 5201, 2499, .. for the seed 0, and 567, 3760, 4794, 9718, 313, .. for the seed 9999.
func TestMadePuzzlesAtTheEdges(t *testing.T) {
	rows := []struct {
		miles       int
		wells       []int
		clues, seed int
		want        string
	}{
		{5, []int{2, 4}, 8, 0, "5:2.2.0,3.5.0,2.2.0,5.2.0,3.2.2,3.3.1,2.2.0,5.2.0"},
		{5, []int{2, 4}, 1, 0, "5:2.2.0"},
		{5, []int{2, 4}, 0, 0, "5:"},
		{2, nil, 8, 9999, "2:5.2.0,1.1.0,3.2.0,5.2.0,2.0.0,4.1.0,2.0.0,4.1.0"},
		{2, []int{1}, 8, 9999, "2:5.1.0,0.1.0,3.2.0,5.1.0,2.1.0,3.1.1,2.1.0,3.1.1"},
		{2, []int{1}, 0, 9999, "2:"},
		{10, nil, 2, 9999, "10:5.10.0,1.7.0"},
		{10, []int{7}, 2, 9999, "10:5.7.0,0.7.0"},
		{10, numbers(1, 9), 3, 9999, "10:5.1.0,0.7.0,3.4.2"},
		{10, []int{1, 9}, 3, 9999, "10:5.8.0,1.7.0,4.4.0"},
		{1, nil, 1, 0, ""}, {1, nil, 0, 0, ""}, {0, nil, 0, 0, ""}, {11, nil, 0, 0, ""}, {-1, nil, 0, 0, ""},
		{5, []int{2, 4}, -1, 0, ""}, {5, []int{2, 4}, 9, 0, ""}, {5, []int{2, 4}, 8, -1, ""}, {5, []int{2, 4}, 8, 10000, ""}, {5, []int{2, 4}, 0, 10008, ""}, {5, []int{2, 4}, 0, 10009, ""},
		{5, []int{0}, 1, 0, ""}, {5, []int{5}, 1, 0, ""}, {5, []int{2, 2}, 1, 0, ""}, {5, []int{4, 2}, 1, 0, ""}, {2, []int{1, 2}, 0, 0, ""}, {10, numbers(1, 10), 0, 0, ""},
	}
	for _, r := range rows {
		p, ok := impl.MakePuzzle(r.miles, r.wells, r.clues, r.seed)
		what := fmt.Sprint("MakePuzzle ", r.miles, r.wells, r.clues, r.seed)
		if r.want == "" {
			expectPuzzle(t, what, p, ok, puzzle{}, false)
		} else {
			expectPuzzle(t, what, p, ok, puzzleOf(t, r.want), true)
		}
		checkMade(t, r.miles, r.wells, r.clues, r.seed)
	}
}

// TestEverySeed makes a puzzle of each seed.
func TestEverySeed(t *testing.T) {
	for seed := range 10000 {
		miles := 2 + seed%9
		roads := hiddenRoads()[miles]
		checkMade(t, miles, roads[seed%len(roads)].wells, seed/3%9, seed)
	}
}

func TestMakePuzzleOfAnyNumbers(t *testing.T) {
	for _, a := range puzzleNumbers() {
		for _, b := range puzzleNumbers() {
			checkMade(t, a, []int{1}, 3, b)
			checkMade(t, 3, []int{1}, a, b)
			checkMade(t, 10, []int{a, b}, 4, 5)
			checkMade(t, a, []int{b}, 4, 5)
			checkMade(t, a, nil, b, 5)
		}
	}
	for _, count := range []int{9, 10, 11, 1000, 100000} {
		for _, miles := range []int{10, 11, math.MaxInt} {
			checkMade(t, miles, numbers(1, count), 1, 1)
			checkMade(t, miles, slices.Repeat([]int{1}, count), 1, 1)
		}
	}
}

func TestTextsOfNoPuzzle(t *testing.T) {
	none := []string{
		"", " ", ":", "5", ".", ",", "::", "0:", "11:", "00:", "05:", "-5:", "+5:", " 5:", "5 :", "5: ", "5:\n", "5:\x00", "\x005:", "5;", "5::", "5.", "5,",
		"5:,", "5:2.2.0,", "5:,2.2.0", "5:2.2.0,,3.2.2", "5:2.2.0, 3.2.2", "5:2.2.0 ,3.2.2", "5:2.2.0;3.2.2", "5:2.2.0:3.2.2", "5:2.2.0.3.2.2", "5:2.2.0\n", ":2.2.0", "2.2.0", "5 2.2.0", "5,2.2.0", "5.2.2.0", ",5:2.2.0",
		"5:2", "5:2.", "5:2.2", "5:2.2.", "5:.2.0", "5:2..0", "5:..", "5:.", "5:2.2.0.", "5:2.2.0.0", "5:2.2.0.0.0", "5:.2.2.0", "5:2.2,0", "5:2,2,0",
		"5:02.2.0", "5:2.02.0", "5:2.2.00", "05:2.2.0", "5:2.2.-0", "5:-2.2.0", "5:2.+2.0", "5:+2.2.0", "5:2.2.+0", "5:2.-2.0", "5: 2.2.0", "5:2 .2.0", "5:2. 2.0", "5:2.2. 0", "5:2.2.0 ",
		"5:6.1.0", "5:-1.1.0", "5:2.5.0", "5:0.0.0", "5:0.5.0", "5:1.5.0", "5:3.0.0", "5:3.6.0", "5:3.1.5", "5:4.6.0", "5:5.0.0", "5:5.6.0", "5:2.2.1", "5:5.1.1", "1:0.1.0", "1:1.1.0", "1:2.1.0", "1:3.1.1",
		"11:2.2.0", "0:2.0.0", "10:2.10.0", "10:5.11.0", "10:3.1.10", "100:", "1000000:", "9223372036854775807:", "9223372036854775808:", "18446744073709551621:", "18446744073709551621:2.2.0",
		"5:18446744073709551618.2.0", "5:2.18446744073709551618.0", "5:2.2.18446744073709551616", "5:2.2.9223372036854775808", "5:-18446744073709551614.2.0", "5:2.2.4294967296", "4294967301:2.2.0",
		"5:2.2.0" + strings.Repeat(",2.2.0", 8), "5:" + strings.Repeat("2.2.0,", 100000), "5:" + strings.Repeat(",", 100000), "5:" + strings.Repeat(".", 100000), "5:2.2." + strings.Repeat("0", 100000),
		strings.Repeat("5", 100000) + ":", strings.Repeat(":", 100000), strings.Repeat("\xff", 1000), "5:2.2.0\xff", "\xff5:2.2.0", "５:", "5：", "5:٢.2.0", "5:a.b.c", "a:", "0x5:", "5:0x2.2.0", "5:2_0.2.0", "5:2e0.2.0", "five:",
	}
	for _, s := range none {
		p, ok := impl.ParsePuzzle(s)
		expectPuzzle(t, fmt.Sprintf("ParsePuzzle %.60q", s), p, ok, puzzle{}, false)
	}
}

// TestEveryShortPuzzleText parses each text of a few of the bytes that matter: it succeeds exactly for the texts of puzzles.
func TestEveryShortPuzzleText(t *testing.T) {
	texts := map[string]puzzle{}
	for miles := 1; miles <= 10; miles++ {
		texts[fmt.Sprintf("%d:", miles)] = puz(miles)
		for _, c := range cluesOf(miles) {
			texts[puzzleTextByHand(puz(miles, c))] = puz(miles, c)
		}
	}
	found := 0
	var grow func(s string, more int)
	grow = func(s string, more int) {
		p, ok := impl.ParsePuzzle(s)
		want, wantOk := texts[s]
		if wantOk {
			found++
		}
		if p.Miles != want.Miles || !slices.Equal(p.Clues, want.Clues) || ok != wantOk {
			t.Errorf("ParsePuzzle %q: got %v, %v; want %v, %v", s, p, ok, want, wantOk)
		}
		if more > 0 {
			for _, c := range []string{"0", "1", "2", ":", ".", ",", "-"} {
				grow(s+c, more-1)
			}
		}
	}
	grow("", 7)
	if found != 8 {
		t.Error("texts of at most 7 bytes", found)
	}
}

// TestAlmostPuzzleTexts changes one byte of texts, takes it away, or puts one before it.
func TestAlmostPuzzleTexts(t *testing.T) {
	draw := rand.New(rand.NewPCG(9, 5))
	found := 0
	check := func(s string) {
		p, ok := impl.ParsePuzzle(s)
		want, wantOk := parsePuzzleByHand(s)
		expectPuzzle(t, fmt.Sprintf("ParsePuzzle %q", s), p, ok, want, wantOk)
		if ok {
			found++
			text, ok := impl.PuzzleText(p)
			expect(t, "PuzzleText", text, ok, s, true)
		}
	}
	for range 60 {
		text, ok := impl.PuzzleText(puzzleByChance(draw, 2+draw.IntN(9), draw.IntN(9), 100))
		if !ok {
			t.Fatal("no text")
		}
		check(text)
		for i := range len(text) + 1 {
			for _, c := range "0123456789:.,-+ x\x00\n\xff" {
				check(text[:i] + string(c) + text[i:])
				if i < len(text) {
					check(text[:i] + string(c) + text[i+1:])
				}
			}
			if i < len(text) {
				check(text[:i] + text[i+1:])
			}
		}
	}
	if found < 500 {
		t.Error("too few texts of puzzles", found)
	}
}

// TestPuzzleListsAreKeptApart changes the results of calls, and what is behind them, and looks at the arguments and at the results of other calls.
func TestPuzzleListsAreKeptApart(t *testing.T) {
	for _, text := range []string{"5:2.2.0,3.2.2,0.4.0", "5:0.4.0,2.2.0,3.2.2,3.2.2,0.2.0", "6:5.2.0", "4:0.2.0,2.2.0,2.2.0,1.1.0", "4:"} {
		p := puzzleOf(t, text)
		for name, call := range puzzleLists() {
			first, ok := call(p)
			other, _ := call(p)
			kept := slices.Clone(first)
			scrambled(first)
			again, againOk := call(p)
			expectList(t, name+" called before "+text, other, ok, kept, ok)
			expectList(t, name+" called behind "+text, again, againOk, kept, ok)
		}
		all, _ := impl.Solutions(p)
		for i := range all {
			scrambled(all[i])
			expectLists(t, "the Solutions behind one that is changed", all[i+1:], true, solutionsByHand(p)[i+1:], true)
		}
		scrambled(all)
		again, ok := impl.Solutions(p)
		expectLists(t, "Solutions", again, ok, solutionsByHand(p), true)
		expectPuzzle(t, "the puzzle", p, true, puzzleOf(t, text), true)
	}
}

// TestPuzzlesAreKeptApart changes the clues of puzzles that are made of others, and what is behind them.
func TestPuzzlesAreKeptApart(t *testing.T) {
	solved := "5:2.2.0,3.2.2,0.4.0"
	calls := map[string]func(puzzle) (puzzle, bool){
		"DropClue 0":   func(p puzzle) (puzzle, bool) { return impl.DropClue(p, 0) },
		"DropClue 1":   func(p puzzle) (puzzle, bool) { return impl.DropClue(p, 1) },
		"DropClue 2":   func(p puzzle) (puzzle, bool) { return impl.DropClue(p, 2) },
		"AddClue":      func(p puzzle) (puzzle, bool) { return impl.AddClue(p, clu(0, 2, 0)) },
		"HarderPuzzle": impl.HarderPuzzle,
		"MakePuzzle":   func(puzzle) (puzzle, bool) { return impl.MakePuzzle(5, []int{2, 4}, 8, 0) },
		"ParsePuzzle":  func(puzzle) (puzzle, bool) { return impl.ParsePuzzle(solved) },
	}
	for name, call := range calls {
		room := append(puzzleOf(t, solved).Clues, clu(5, 5, 5), clu(6, 6, 6), clu(7, 7, 7))
		kept := slices.Clone(room)
		p := puz(5, room[:3]...)
		first, ok := call(p)
		other, _ := call(p)
		want := slices.Clone(first.Clues)
		scrambled(first.Clues)
		again, againOk := call(p)
		expectPuzzle(t, name+" called before", other, ok, puz(5, want...), true)
		expectPuzzle(t, name+" called behind", again, againOk, puz(5, want...), true)
		expectList(t, "the clues given to "+name, room, true, kept, true)
	}
	one, _ := impl.AddClue(puzzleOf(t, solved), clu(0, 2, 0))
	two, _ := impl.AddClue(one, clu(0, 3, 0))
	three, _ := impl.AddClue(one, clu(1, 1, 0))
	expect(t, "the clue of AddClue", two.Clues[4], true, clu(0, 3, 0), true)
	expect(t, "the clue of another AddClue", three.Clues[4], true, clu(1, 1, 0), true)
}
