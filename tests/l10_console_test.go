package tests

import (
	"fmt"
	"math/rand/v2"
	"regexp"
	"slices"
	"strconv"
	"strings"
	"testing"

	"loop.example/g01258/impl"
)

type desk = impl.Desk

func dsk(fuel, way amount) desk {
	return desk{Fuel: fuel, Way: way}
}

func isDeskByHand(d desk) bool {
	return isAmountByHand(d.Fuel) && isAmountByHand(d.Way)
}

// A tableLine is a line of the document's table: shape tells its words behind the first one, and call does what the line names.
// The call tells amounts as texts that may be none, and ok only whether what it names succeeds.
type tableLine struct {
	name  string
	shape string
	call  func(d *desk, a amount, n, k int) (reply []string, ok bool)
}

const noText = "no text"

// textByHand needs an amount.
func textByHand(a amount) string {
	switch {
	case a.Num/a.Den > 999999 || a.Den > 999999:
		return noText
	case a.Den == 1:
		return fmt.Sprint(a.Num)
	}
	return fmt.Sprintf("%d+%d/%d", a.Num/a.Den, a.Num%a.Den, a.Den)
}

// becomes puts an amount in its place, and replies with it.
func becomes(place *amount, a amount, ok bool) ([]string, bool) {
	if !ok {
		return nil, false
	}
	*place = a
	return []string{textByHand(a)}, true
}

func tells(a amount, ok bool) ([]string, bool) {
	if !ok {
		return nil, false
	}
	return []string{textByHand(a)}, true
}

func tellsWhether(yes, ok bool) ([]string, bool) {
	if yes {
		return []string{"yes"}, ok
	}
	return []string{"not"}, ok
}

func counts(n int, ok bool) ([]string, bool) {
	return []string{strconv.Itoa(n)}, ok
}

func countsAll(list []int, ok bool) ([]string, bool) {
	replies := make([]string, len(list))
	for i, n := range list {
		replies[i] = strconv.Itoa(n)
	}
	if len(replies) == 0 {
		replies = []string{"-"}
	}
	return replies, ok
}

func tellsPlaces(list []depot, ok bool) ([]string, bool) {
	replies := make([]string, len(list))
	for i, p := range list {
		replies[i] = textByHand(p.At)
	}
	if len(replies) == 0 {
		replies = []string{"-"}
	}
	return replies, ok
}

func deskTable() []tableLine {
	ofNumber := func(name string, of func(int) (amount, bool)) tableLine {
		return tableLine{name, "N", func(_ *desk, _ amount, n, _ int) ([]string, bool) { return tells(of(n)) }}
	}
	ofTwo := func(name string, of func(int, int) (int, bool)) tableLine {
		return tableLine{name, "NK", func(_ *desk, _ amount, n, k int) ([]string, bool) { return counts(of(n, k)) }}
	}
	of := func(name string, call func(d *desk) ([]string, bool)) tableLine {
		return tableLine{name, "", func(d *desk, _ amount, _, _ int) ([]string, bool) { return call(d) }}
	}
	ofAmount := func(name string, call func(d *desk, a amount) ([]string, bool)) tableLine {
		return tableLine{name, "A", func(d *desk, a amount, _, _ int) ([]string, bool) { return call(d, a) }}
	}
	withFuel := func(d *desk, of func(amount, amount) (amount, bool), a amount) ([]string, bool) {
		sum, ok := of(d.Fuel, a)
		return becomes(&d.Fuel, sum, ok)
	}
	return []tableLine{
		ofAmount("fuel", func(d *desk, a amount) ([]string, bool) { return becomes(&d.Fuel, a, true) }),
		ofAmount("way", func(d *desk, a amount) ([]string, bool) { return becomes(&d.Way, a, true) }),
		ofAmount("more", func(d *desk, a amount) ([]string, bool) { return withFuel(d, impl.AddAmounts, a) }),
		ofAmount("less", func(d *desk, a amount) ([]string, bool) { return withFuel(d, impl.LessAmount, a) }),
		ofAmount("on", func(d *desk, a amount) ([]string, bool) {
			way, ok := impl.AddAmounts(d.Way, a)
			return becomes(&d.Way, way, ok)
		}),
		of("reach", func(d *desk) ([]string, bool) {
			way, ok := impl.FarthestOut(d.Fuel)
			return becomes(&d.Way, way, ok)
		}),
		of("home", func(d *desk) ([]string, bool) {
			way, ok := impl.FarthestBack(d.Fuel)
			return becomes(&d.Way, way, ok)
		}),
		of("need", func(d *desk) ([]string, bool) {
			fuel, ok := impl.FuelOut(d.Way)
			return becomes(&d.Fuel, fuel, ok)
		}),
		of("show", func(d *desk) ([]string, bool) { return []string{textByHand(d.Fuel), textByHand(d.Way)}, true }),
		of("cross", func(d *desk) ([]string, bool) { return tellsWhether(impl.CanCross(d.Fuel, d.Way)) }),
		of("return", func(d *desk) ([]string, bool) { return tellsWhether(impl.CanReturn(d.Fuel, d.Way)) }),
		of("gain", func(d *desk) ([]string, bool) { return tells(impl.GainOut(d.Fuel)) }),
		of("units", func(d *desk) ([]string, bool) { return countsAll(impl.UnitParts(d.Way)) }),
		of("helpers", func(d *desk) ([]string, bool) { return counts(impl.VehiclesToGo(d.Way)) }),
		ofNumber("harmonic", impl.HarmonicSum),
		ofNumber("odd", impl.OddHarmonicSum),
		ofNumber("stay", impl.StayReach),
		ofNumber("back", impl.BackReach),
		ofNumber("ring", impl.RingReach),
		{"depots", "N", func(_ *desk, _ amount, n, _ int) ([]string, bool) { return tellsPlaces(impl.DepotsOut(n)) }},
		ofTwo("cans", impl.CansOut),
		ofTwo("miles", impl.MilesOut),
		{"needs", "NK", func(_ *desk, _ amount, n, k int) ([]string, bool) { return countsAll(impl.NeedsOut(n, k)) }},
	}
}

var (
	numberShape = regexp.MustCompile(`^(0|[1-9][0-9]{0,5})$`)
	amountShape = regexp.MustCompile(`^(0|[1-9][0-9]{0,5})(?:\+([1-9][0-9]{0,5})/([1-9][0-9]{0,5}))?$`)
)

func numberByHand(word string) (int, bool) {
	if !numberShape.MatchString(word) {
		return 0, false
	}
	n, err := strconv.Atoi(word)
	return n, err == nil
}

func amountByHand(word string) (amount, bool) {
	found := amountShape.FindStringSubmatch(word)
	if found == nil {
		return amount{}, false
	}
	units, _ := strconv.Atoi(found[1])
	if found[2] == "" {
		return am(units, 1), true
	}
	num, _ := strconv.Atoi(found[2])
	den, _ := strconv.Atoi(found[3])
	a := am(units*den+num, den)
	return a, num < den && isAmountByHand(a)
}

// lineByHand needs a desk, and a line without a newline.
func lineByHand(d desk, line string) (desk, string) {
	words := strings.Split(line, " ")
	table := deskTable()
	i := slices.IndexFunc(table, func(l tableLine) bool { return l.name == words[0] })
	if i < 0 || len(words) != 1+len(table[i].shape) {
		return d, "what"
	}
	var a amount
	var n [2]int
	for k, kind := range table[i].shape {
		var ok bool
		if kind == 'A' {
			a, ok = amountByHand(words[1+k])
		} else {
			n[k], ok = numberByHand(words[1+k])
		}
		if !ok {
			return d, "what"
		}
	}
	behind := d
	replies, ok := table[i].call(&behind, a, n[0], n[1])
	if !ok || slices.Contains(replies, noText) {
		return d, "no"
	}
	separator := ","
	if words[0] == "show" {
		separator = " "
	}
	return behind, strings.Join(replies, separator)
}

func isScriptByHand(s string) bool {
	return s == "" || len(s) <= 3000 && strings.HasSuffix(s, "\n") && strings.Count(s, "\n") <= 50
}

// checkLine executes a line on any desk, twice.
func checkLine(t *testing.T, d desk, line string) {
	t.Helper()
	var want desk
	wantReply, wantOk := "", isDeskByHand(d) && len(line) <= 3000 && !strings.Contains(line, "\n")
	if wantOk {
		want, wantReply = lineByHand(d, line)
	}
	for range 2 {
		behind, reply, ok := impl.DeskLine(d, line)
		if behind != want || reply != wantReply || ok != wantOk {
			t.Errorf("DeskLine %v %.60q: got %v, %.60q, %v; want %v, %.60q, %v", d, line, behind, reply, ok, want, wantReply, wantOk)
		}
	}
}

// checkScript executes any text.
func checkScript(t *testing.T, s string) {
	t.Helper()
	var end desk
	var wantReplies []string
	var wantFailed []int
	wantOk := isScriptByHand(s)
	if wantOk {
		end = dsk(am(1, 1), am(0, 1))
		for i, line := range strings.Split(s, "\n")[:strings.Count(s, "\n")] {
			var reply string
			end, reply = lineByHand(end, line)
			wantReplies = append(wantReplies, reply)
			if reply == "no" || reply == "what" {
				wantFailed = append(wantFailed, i+1)
			}
		}
	}
	replies, ok := impl.RunScript(s)
	expectList(t, fmt.Sprintf("RunScript %.200q", s), replies, ok, wantReplies, wantOk)
	behind, ok := impl.DeskAfter(s)
	expect(t, fmt.Sprintf("DeskAfter %.200q", s), behind, ok, end, wantOk)
	failed, ok := impl.FailedLines(s)
	expectList(t, fmt.Sprintf("FailedLines %.200q", s), failed, ok, wantFailed, wantOk)
}

// A spoken line is a line and the reply that the document requires, on the desk behind the lines before it.
type spoken struct {
	line  string
	reply string
}

// checkSpoken has lines executed one by one, as one script, and as the first lines of it.
func checkSpoken(t *testing.T, first desk, lines []spoken, end desk) {
	t.Helper()
	d := first
	var script strings.Builder
	for _, l := range lines {
		checkLine(t, d, l.line)
		behind, reply, ok := impl.DeskLine(d, l.line)
		expect(t, fmt.Sprintf("the reply to %q on %v", l.line, d), reply, ok, l.reply, true)
		d = behind
		script.WriteString(l.line + "\n")
	}
	expect(t, fmt.Sprint("the desk behind ", lines), d, true, end, true)
	if first == impl.FirstDesk() && isScriptByHand(script.String()) {
		checkScript(t, script.String())
		behind, ok := impl.DeskAfter(script.String())
		expect(t, "DeskAfter "+script.String(), behind, ok, end, true)
	}
}

func TestConsoleLimitConstants(t *testing.T) {
	if impl.MaxScript != 3000 || impl.MaxLines != 50 {
		t.Error("wrong limits", impl.MaxScript, impl.MaxLines)
	}
}

func TestFirstDesk(t *testing.T) {
	first := impl.FirstDesk()
	expect(t, "FirstDesk", first, impl.IsDesk(first), dsk(am(1, 1), am(0, 1)), true)
}

func TestConsoleExample(t *testing.T) {
	checkSpoken(t, impl.FirstDesk(), []spoken{
		{"fuel 2", "2"}, {"reach", "1+1/3"}, {"on 0+1/5", "1+8/15"}, {"cross", "not"}, {"need", "3"}, {"gain", "0+1/7"},
		{"show", "3 1+8/15"}, {"depots 3", "0+1/5,0+8/15"}, {"odd 3", "1+8/15"}, {"units", "no"}, {"ring 3", "2"}, {"helpers", "4"},
		{"needs 3 5", "15,6,3,2,1,0"}, {"less 9", "no"}, {"fly", "what"},
	}, dsk(am(3, 1), am(23, 15)))
	failed, ok := impl.FailedLines("fuel 2\nunits\nless 9\nfly\nshow\n")
	expectList(t, "FailedLines", failed, ok, []int{3, 4}, true)
}

// TestEveryLineOfTheTable has the replies of the other chapters' examples, and others reckoned by hand.
func TestEveryLineOfTheTable(t *testing.T) {
	rows := []struct {
		lines []spoken
		end   desk
	}{
		{nil, dsk(am(1, 1), am(0, 1))},
		{[]spoken{{"show", "1 0"}}, dsk(am(1, 1), am(0, 1))},
		{[]spoken{{"fuel 2+1/2", "2+1/2"}, {"show", "2+1/2 0"}}, dsk(am(5, 2), am(0, 1))},
		{[]spoken{{"way 3+2/7", "3+2/7"}, {"show", "1 3+2/7"}}, dsk(am(1, 1), am(23, 7))},
		{[]spoken{{"fuel 0", "0"}, {"way 999999", "999999"}, {"fuel 0+1/999999", "0+1/999999"}}, dsk(am(1, 999999), am(999999, 1))},
		{[]spoken{{"more 0+1/2", "1+1/2"}, {"more 0+1/2", "2"}, {"more 0", "2"}}, dsk(am(2, 1), am(0, 1))},
		{[]spoken{{"less 0+1/3", "0+2/3"}, {"less 0+2/3", "0"}, {"less 0", "0"}, {"less 0+1/3", "no"}}, dsk(am(0, 1), am(0, 1))},
		{[]spoken{{"on 1+1/3", "1+1/3"}, {"on 0+1/5", "1+8/15"}, {"on 0", "1+8/15"}}, dsk(am(1, 1), am(23, 15))},
		{[]spoken{{"reach", "1"}, {"fuel 2", "2"}, {"reach", "1+1/3"}, {"show", "2 1+1/3"}}, dsk(am(2, 1), am(4, 3))},
		{[]spoken{{"home", "0+1/2"}, {"fuel 2", "2"}, {"home", "0+3/4"}, {"show", "2 0+3/4"}}, dsk(am(2, 1), am(3, 4))},
		{[]spoken{{"way 1+1/3", "1+1/3"}, {"need", "2"}, {"way 1+1/4", "1+1/4"}, {"need", "1+3/4"}, {"show", "1+3/4 1+1/4"}}, dsk(am(7, 4), am(5, 4))},
		{[]spoken{{"need", "0"}}, dsk(am(0, 1), am(0, 1))},
		{[]spoken{{"cross", "yes"}, {"way 1", "1"}, {"cross", "yes"}, {"on 0+1/999999", "1+1/999999"}, {"cross", "not"}}, dsk(am(1, 1), am(1000000, 999999))},
		{[]spoken{{"return", "yes"}, {"way 0+1/2", "0+1/2"}, {"return", "yes"}, {"cross", "yes"}, {"way 0+500/999", "0+500/999"}, {"return", "not"}, {"cross", "yes"}}, dsk(am(1, 1), am(500, 999))},
		{[]spoken{{"gain", "0+1/3"}, {"fuel 2", "2"}, {"gain", "0+1/5"}, {"fuel 1+1/2", "1+1/2"}, {"gain", "0+4/15"}, {"fuel 0", "0"}, {"gain", "1"}}, dsk(am(0, 1), am(0, 1))},
		{[]spoken{{"depots 0", "-"}, {"depots 1", "-"}, {"depots 2", "0+1/3"}, {"depots 3", "0+1/5,0+8/15"}, {"depots 4", "0+1/7,0+12/35,0+71/105"}}, impl.FirstDesk()},
		{[]spoken{{"harmonic 0", "0"}, {"harmonic 1", "1"}, {"harmonic 2", "1+1/2"}, {"harmonic 4", "2+1/12"}}, impl.FirstDesk()},
		{[]spoken{{"odd 0", "0"}, {"odd 1", "1"}, {"odd 2", "1+1/3"}, {"odd 3", "1+8/15"}}, impl.FirstDesk()},
		{[]spoken{{"units", "-"}, {"way 0+4/5", "0+4/5"}, {"units", "2,4,20"}, {"way 0+1/7", "0+1/7"}, {"units", "7"}, {"way 1", "1"}, {"units", "no"}}, dsk(am(1, 1), am(1, 1))},
		{[]spoken{{"stay 1", "1"}, {"stay 2", "1+1/2"}, {"stay 3", "1+5/6"}}, impl.FirstDesk()},
		{[]spoken{{"back 1", "1"}, {"back 2", "1+1/3"}, {"back 3", "1+1/2"}, {"back 20", "1+19/21"}}, impl.FirstDesk()},
		{[]spoken{{"ring 1", "1"}, {"ring 2", "1+2/3"}, {"ring 3", "2"}, {"ring 20", "2+17/21"}}, impl.FirstDesk()},
		{[]spoken{{"helpers", "1"}, {"way 1", "1"}, {"helpers", "1"}, {"way 1+1/3", "1+1/3"}, {"helpers", "2"}, {"way 1+1/2", "1+1/2"}, {"helpers", "3"}, {"way 1+19/21", "1+19/21"}, {"helpers", "20"}}, dsk(am(1, 1), am(40, 21))},
		{[]spoken{{"cans 3 0", "0"}, {"cans 3 5", "15"}, {"cans 5 3", "3"}, {"cans 3 16", "2391486"}}, impl.FirstDesk()},
		{[]spoken{{"miles 3 0", "0"}, {"miles 3 15", "5"}, {"miles 3 14", "4"}, {"miles 15 3", "3"}, {"miles 2 999999", "2"}, {"miles 3 999999", "15"}}, impl.FirstDesk()},
		{[]spoken{{"needs 3 0", "0"}, {"needs 3 5", "15,6,3,2,1,0"}, {"needs 5 3", "3,2,1,0"}, {"needs 2 2", "2,1,0"}}, impl.FirstDesk()},
	}
	for _, r := range rows {
		checkSpoken(t, impl.FirstDesk(), r.lines, r.end)
	}
}

// TestNumbersHaveTextsOfAnySize tells numbers that are greater than those in a text of an amount may be.
func TestNumbersHaveTextsOfAnySize(t *testing.T) {
	checkSpoken(t, impl.FirstDesk(), []spoken{
		{"way 0+4/17", "0+4/17"}, {"units", "5,29,1233,3039345"},
		{"needs 3 16", "2391486,797163,265722,88575,29526,9843,3282,1095,366,123,42,15,6,3,2,1,0"},
	}, dsk(am(1, 1), am(4, 17)))
}

// TestLinesThatReplyNo has, for each line that can, functions that fail and amounts that have no text: the desk has to stay.
func TestLinesThatReplyNo(t *testing.T) {
	rows := []struct {
		d     desk
		lines string
	}{
		// A function fails.
		{dsk(am(1000000000, 1), am(0, 1)), "more 1;more 0+1/2;more 999999"},
		{dsk(am(1, 1000000000), am(0, 1)), "more 0+1/3;less 0+1/999999;less 1"},
		{dsk(am(1, 1), am(0, 1)), "less 1+1/999999;less 2;less 999999"},
		{dsk(am(1, 1), am(1000000000, 1)), "on 1;on 0+1/2"},
		{dsk(am(1, 1), am(1, 1000000000)), "on 0+1/3"},
		{dsk(am(11, 1), am(0, 1)), "reach;home;cross;return;gain"},
		{dsk(am(10000001, 1000000), am(1, 1)), "reach;home;cross;return;gain"},
		{dsk(am(999999999, 1000000000), am(1, 1)), "home;return"},
		{dsk(am(10, 1), am(3, 1)), "gain;need;helpers;units"},
		{dsk(am(19, 2), am(0, 1)), "gain"},
		{dsk(am(7993, 999), am(0, 1)), "gain"},
		{dsk(am(1, 1), am(2, 1)), "helpers;units"},
		{dsk(am(1, 1), am(61, 32)), "units"},
		{dsk(am(1, 1), am(61, 32)), "helpers"},
		{dsk(am(1, 1), am(1, 1)), "units"},
		{dsk(am(1, 1), am(8, 9)), "depots 11;depots 999999;harmonic 21;harmonic 999999;odd 11;odd 999999"},
		{dsk(am(1, 1), am(8, 9)), "stay 0;stay 21;stay 999999;back 0;back 21;back 999999;ring 0;ring 21;ring 999999"},
		{dsk(am(1, 1), am(8, 9)), "cans 1 1;cans 21 1;cans 2 101;cans 2 3;cans 3 100;cans 0 0;cans 999999 0;cans 3 999999"},
		{dsk(am(1, 1), am(8, 9)), "miles 1 1;miles 21 1;miles 0 0;miles 999999 0"},
		{dsk(am(1, 1), am(8, 9)), "needs 1 1;needs 21 1;needs 2 101;needs 2 3;needs 3 100;needs 0 0;needs 3 999999"},
		// An amount has no text.
		{dsk(am(999999, 1), am(999999, 1)), "more 1;more 999999;on 1;on 999999"},
		{dsk(am(1, 999999), am(1, 999999)), "more 0+1/2;on 0+1/2"},
		{dsk(am(1, 2), am(1, 2)), "more 0+1/999999;less 0+1/999999;on 0+1/999999"},
		{dsk(am(1000000000, 1), am(1000000000, 1)), "more 0;less 0;less 1;less 999999;on 0"},
		{dsk(am(1, 1000000), am(0, 1)), "reach;home;show;gain"},
		{dsk(am(1, 500000), am(0, 1)), "home"},
		{dsk(am(19, 2), am(0, 1)), "reach"},
		{dsk(am(10, 1), am(0, 1)), "reach"},
		{dsk(am(1, 1), am(1, 1000000)), "need;show"},
		{dsk(am(1000000, 1), am(0, 1)), "show"},
		{dsk(am(0, 1), am(1000000, 1)), "show"},
		{dsk(am(1000000, 1), am(1000000, 1)), "show"},
		{dsk(am(1, 1), am(0, 1)), "depots 10;harmonic 17;harmonic 20;odd 10;stay 17;stay 20"},
	}
	for _, r := range rows {
		for _, line := range strings.Split(r.lines, ";") {
			checkSpoken(t, r.d, []spoken{{line, "no"}}, r.d)
		}
	}
}

// TestDesksWithoutTexts has amounts without a text on the desk that the reply does not tell.
func TestDesksWithoutTexts(t *testing.T) {
	huge, tiny := am(1000000000, 1), am(1, 1000000000)
	checkSpoken(t, dsk(huge, tiny), []spoken{{"units", "1000000000"}, {"show", "no"}, {"way 2", "2"}, {"on 1", "3"}, {"show", "no"}, {"fuel 2", "2"}, {"show", "2 3"}}, dsk(am(2, 1), am(3, 1)))
	checkSpoken(t, dsk(tiny, huge), []spoken{{"cross", "not"}, {"return", "no"}, {"gain", "no"}, {"helpers", "no"}, {"odd 3", "1+8/15"}, {"cans 3 5", "15"}}, dsk(tiny, huge))
	checkSpoken(t, dsk(tiny, tiny), []spoken{{"cross", "yes"}, {"return", "no"}, {"helpers", "1"}, {"fuel 1", "1"}, {"show", "no"}, {"reach", "1"}, {"show", "1 1"}}, dsk(am(1, 1), am(1, 1)))
	checkSpoken(t, dsk(am(1000000, 1), am(1000001, 1000000)), []spoken{{"less 1", "999999"}, {"show", "no"}, {"need", "no"}, {"helpers", "2"}, {"way 1+1/2", "1+1/2"}, {"need", "2+5/6"}}, dsk(am(17, 6), am(3, 2)))
	checkSpoken(t, dsk(am(1, 1000000), am(1, 1)), []spoken{{"more 0+1/64", "0+7813/500000"}, {"need", "1"}, {"home", "0+1/2"}}, dsk(am(1, 1), am(1, 2)))
	checkSpoken(t, dsk(am(1, 1000000), am(1, 1)), []spoken{{"more 0+1/3", "no"}, {"fuel 0", "0"}, {"reach", "0"}, {"gain", "1"}}, dsk(am(0, 1), am(0, 1)))
}

// wrongNumbers are words that are no numbers in 0..999999.
func wrongNumbers() []string {
	return []string{
		"", "1000000", "1000001", "9999999", "9223372036854775807", "9223372036854775808", "18446744073709551618", strings.Repeat("3", 500),
		"00", "01", "007", "000000", "0000003", "-1", "-0", "+0", "+3", "--3", "3-", "3+", "1.0", ".3", "3.", "3,0", "3,", "1e1", "0x3", "0b1", "1_0", "3\t", "\t3", "3\r", "3\x00", "\x003",
		"three", "n", "N", "-", "+", "/", "0+1/2", "3+1/2", "3/1", "\xff", "３", "٣", "½",
	}
}

// wrongAmounts are words that are no AmountTexts.
func wrongAmounts() []string {
	return []string{
		"", "1000000", "1000001", "1000000000", "9223372036854775808", strings.Repeat("1", 500),
		"00", "01", "-1", "-0", "+0", "+1", "1.5", "1e1", "0x1", "1_0", "1/2", "+1/2", "3/1", "1+", "1+1", "1+1/", "1+/2", "1+1//2", "1++1/2", "1+1/2/3", "1+1/2+1/3",
		"0+0/1", "0+0/2", "1+0/3", "0+1/1", "0+2/1", "0+2/4", "0+6/9", "1+4/6", "0+2/2", "0+3/2", "2+7/5", "0+01/2", "0+1/02", "00+1/2", "01+1/2", "0+1/0", "0+0/0", "0+-1/2", "0+1/-2", "-1+1/2",
		"0+1/1000000", "0+1000000/1000001", "1000000+1/2", "999999+999998/999999", "999999+1/1001",
		"one", "A", "-", "+", "/", "1\t", "\t1", "1\r", "1\x00", "1+1\\2", "1-1/2", "\xff", "１", "½",
	}
}

// TestWordsThatAreNone has all wrong words for each line of the table, also where its function would fail.
func TestWordsThatAreNone(t *testing.T) {
	for _, d := range []desk{impl.FirstDesk(), dsk(am(23, 15), am(4, 5)), dsk(am(1000000000, 1), am(1000000000, 1))} {
		for _, l := range deskTable() {
			switch l.shape {
			case "A":
				for _, word := range wrongAmounts() {
					checkSpoken(t, d, []spoken{{l.name + " " + word, "what"}}, d)
				}
			case "N":
				for _, word := range wrongNumbers() {
					checkSpoken(t, d, []spoken{{l.name + " " + word, "what"}}, d)
				}
			case "NK":
				for _, word := range wrongNumbers() {
					for _, other := range []string{"3", "0", "999999", word} {
						checkSpoken(t, d, []spoken{{l.name + " " + word + " " + other, "what"}, {l.name + " " + other + " " + word, "what"}}, d)
					}
				}
			}
		}
	}
}

// TestNumbersAtTheEdges has the least and the greatest number a word may be, and one more, for each line that has one.
func TestNumbersAtTheEdges(t *testing.T) {
	checkSpoken(t, impl.FirstDesk(), []spoken{
		{"depots 0", "-"}, {"depots 999999", "no"}, {"depots 1000000", "what"}, {"harmonic 0", "0"}, {"harmonic 999999", "no"}, {"harmonic 1000000", "what"},
		{"odd 0", "0"}, {"odd 999999", "no"}, {"odd 1000000", "what"}, {"stay 0", "no"}, {"stay 999999", "no"}, {"stay 1000000", "what"},
		{"back 0", "no"}, {"back 999999", "no"}, {"back 1000000", "what"}, {"ring 0", "no"}, {"ring 999999", "no"}, {"ring 1000000", "what"},
		{"cans 0 0", "no"}, {"cans 20 0", "0"}, {"cans 999999 0", "no"}, {"cans 1000000 0", "what"}, {"cans 20 999999", "no"}, {"cans 20 1000000", "what"},
		{"miles 0 0", "no"}, {"miles 20 0", "0"}, {"miles 999999 0", "no"}, {"miles 1000000 0", "what"}, {"miles 20 999999", "100"}, {"miles 20 1000000", "what"},
		{"needs 0 0", "no"}, {"needs 20 0", "0"}, {"needs 999999 0", "no"}, {"needs 1000000 0", "what"}, {"needs 20 999999", "no"}, {"needs 20 1000000", "what"},
	}, impl.FirstDesk())
	checkSpoken(t, impl.FirstDesk(), []spoken{
		{"fuel 0", "0"}, {"fuel 999999", "999999"}, {"fuel 1000000", "what"}, {"less 999999", "0"}, {"more 999999", "999999"}, {"more 1000000", "what"}, {"less 1000000", "what"}, {"less 0+1/999999", "no"}, {"less 0+1/1000", "999998+999/1000"},
	}, dsk(am(999998999, 1000), am(0, 1)))
}

// goodWords are words that are right for each shape, and for no line too much.
func goodWords(shape string) []string {
	return map[string][]string{"": nil, "A": {"0+1/2"}, "N": {"3"}, "NK": {"3", "5"}}[shape]
}

// TestTooFewAndTooManyWords has each line of the table with 0 to 4 words behind its first one.
func TestTooFewAndTooManyWords(t *testing.T) {
	for _, l := range deskTable() {
		for count := range 5 {
			for _, word := range []string{"0+1/2", "3", "0", "", l.name} {
				line := l.name + strings.Repeat(" "+word, count)
				for _, d := range []desk{impl.FirstDesk(), dsk(am(2, 1), am(4, 5)), dsk(am(11, 1), am(3, 1))} {
					checkLine(t, d, line)
					if count != len(l.shape) {
						checkSpoken(t, d, []spoken{{line, "what"}}, d)
					}
				}
			}
		}
	}
}

// TestBlanks has empty words at each place of each line of the table.
func TestBlanks(t *testing.T) {
	for _, l := range deskTable() {
		d := dsk(am(2, 1), am(4, 5))
		words := append([]string{l.name}, goodWords(l.shape)...)
		checkLine(t, d, strings.Join(words, " "))
		if _, reply, ok := impl.DeskLine(d, strings.Join(words, " ")); !ok || reply == "what" || reply == "no" {
			t.Errorf("the reply to %q: got %q, %v", words, reply, ok)
		}
		for i := range len(words) + 1 {
			line := strings.Join(slices.Insert(slices.Clone(words), i, ""), " ")
			checkSpoken(t, d, []spoken{{line, "what"}}, d)
		}
		for i := range words {
			emptied := slices.Clone(words)
			emptied[i] = ""
			checkSpoken(t, d, []spoken{{strings.Join(emptied, " "), "what"}}, d)
		}
		for _, other := range []string{"\t", "\r", "\v", "\f", "\x00", "\u00a0", "  ", ",", "."} {
			checkSpoken(t, d, []spoken{{strings.Join(words, other) + other, "what"}, {other + strings.Join(words, " "), "what"}}, d)
		}
	}
	for _, line := range []string{"", " ", "  ", "   ", "\t", "\r", "\x00", "\xff"} {
		checkSpoken(t, impl.FirstDesk(), []spoken{{line, "what"}}, impl.FirstDesk())
	}
}

// TestAnythingElse has lines that are not in the table, and those that look nearly like some in it.
func TestAnythingElse(t *testing.T) {
	d := dsk(am(2, 1), am(4, 5))
	lines := []string{
		"fly", "what", "no", "yes", "not", "A", "N", "-", "0", "1", "3 5", "fuel2", "fuel=2", "FUEL 2", "Fuel 2", "fuels 2", "fue 2", "fuel A", "way A", "depots N",
		"Show", "SHOW", "shows", "sho", "show 0", "show show", "reached", "reach 2", "home 2", "need 2", "cross 1", "return 1", "gain 2", "units 4", "helpers 2",
		"fuel 1;reach", "fuel 1,reach", "depots 3,4", "cans 3,5", "cans 3+5", "back 3 5", "ring 3 5", "stay 3 5", "odd 3 5", "harmonic 0+1/2", "depots 3+1/2", "cans 3 0+1/2",
		"cans 3", "miles 3", "needs 3", "cans 3 5 7", "need 3 5", "can 3 5", "mile 3 5", "fuel 1 1", "way 1 1", "more 1 1", "less 9 9", "on 1 1", "depot 3", "helper", "unit", "returns", "crosses",
	}
	for _, line := range lines {
		checkSpoken(t, d, []spoken{{line, "what"}}, d)
	}
}

// TestNothingChanges asks for what is on the desk behind each line that is answered by no or what.
func TestNothingChanges(t *testing.T) {
	checkSpoken(t, impl.FirstDesk(), []spoken{
		{"fuel 3", "3"}, {"way 1+1/2", "1+1/2"}, {"fuel 01", "what"}, {"show", "3 1+1/2"}, {"way 1000000", "what"}, {"show", "3 1+1/2"},
		{"more 999999", "no"}, {"show", "3 1+1/2"}, {"less 3+1/2", "no"}, {"show", "3 1+1/2"}, {"on 999999", "no"}, {"show", "3 1+1/2"},
		{"less 0+1/999999", "2+999998/999999"}, {"reach", "no"}, {"show", "2+999998/999999 1+1/2"}, {"home", "no"}, {"show", "2+999998/999999 1+1/2"},
		{"way 2+1/2", "2+1/2"}, {"need", "no"}, {"show", "2+999998/999999 2+1/2"}, {"depots 10", "no"}, {"show", "2+999998/999999 2+1/2"},
		{"more 0+1/999999", "3"}, {"reach", "1+8/15"}, {"show", "3 1+8/15"},
	}, dsk(am(3, 1), am(23, 15)))
}

func TestIsDesk(t *testing.T) {
	good := am(2, 3)
	for _, a := range append(hostileAmounts(), someAmounts()...) {
		is := isAmountByHand(a)
		for _, d := range []desk{dsk(a, good), dsk(good, a), dsk(a, a), dsk(a, am(2, 4)), dsk(am(0, 0), a)} {
			expect(t, fmt.Sprint("IsDesk ", d), impl.IsDesk(d), true, isDeskByHand(d), true)
		}
		expect(t, fmt.Sprint("IsDesk with the Fuel ", a), impl.IsDesk(dsk(a, good)), true, is, true)
		expect(t, fmt.Sprint("IsDesk with the Way ", a), impl.IsDesk(dsk(good, a)), true, is, true)
	}
	expect(t, "IsDesk of none", impl.IsDesk(desk{}), true, false, true)
}

// TestDeskThatIsNone has lines that would not look at what is wrong, and that would put it right.
func TestDeskThatIsNone(t *testing.T) {
	lines := []string{"show", "fuel 1", "way 1", "more 1", "on 1", "reach", "need", "gain", "units", "helpers", "odd 3", "cans 3 5", "fly", ""}
	for _, a := range hostileAmounts() {
		for i, d := range []desk{dsk(a, am(1, 2)), dsk(am(1, 2), a), dsk(a, a)} {
			checkLine(t, d, lines[i])
			checkLine(t, d, lines[(a.Num&63+a.Den&63)%len(lines)])
		}
	}
	for _, d := range []desk{{}, dsk(am(1, 1), am(0, 2)), dsk(am(2, 2), am(0, 1)), dsk(am(-1, 1), am(0, 1)), dsk(am(1, 1), am(0, -1)), dsk(am(1, 1), am(1, 1000000001))} {
		for _, line := range lines {
			behind, reply, ok := impl.DeskLine(d, line)
			expect(t, fmt.Sprintf("the reply to %q on %v", line, d), reply, ok, "", false)
			expect(t, fmt.Sprintf("the desk behind %q on %v", line, d), behind, ok, desk{}, false)
		}
	}
}

// TestLineLimits has lines of MaxScript bytes and more, and lines with newlines.
func TestLineLimits(t *testing.T) {
	d := dsk(am(2, 1), am(4, 5))
	for _, c := range []string{"x", " ", "0", "\x00", "\xff", "/", "+"} {
		for _, head := range []string{"", "fuel ", "fuel 1", "show", "cans 3 "} {
			checkSpoken(t, d, []spoken{{head + strings.Repeat(c, 2999-len(head)), "what"}, {head + strings.Repeat(c, 3000-len(head)), "what"}}, d)
			behind, reply, ok := impl.DeskLine(d, head+strings.Repeat(c, 3001-len(head)))
			expect(t, "the reply to a line that is too long", reply, ok, "", false)
			expect(t, "the desk behind a line that is too long", behind, ok, desk{}, false)
			checkLine(t, d, head+strings.Repeat(c, 100000))
		}
	}
	for _, line := range []string{"\n", "show\n", "\nshow", "fuel 1\n", "fuel 1\nshow", "fuel\n1", "\n\n", "fly\n", "show\r\n", " \n", strings.Repeat("x", 2999) + "\n", strings.Repeat("x", 3000) + "\n", strings.Repeat("\n", 3001)} {
		behind, reply, ok := impl.DeskLine(d, line)
		expect(t, fmt.Sprintf("the reply to %.20q", line), reply, ok, "", false)
		expect(t, fmt.Sprintf("the desk behind %.20q", line), behind, ok, desk{}, false)
	}
}

// TestScriptEdges has the number of lines that a text has, or -1 if it is no script.
func TestScriptEdges(t *testing.T) {
	longest := strings.Repeat(strings.Repeat("x", 59)+"\n", 49)
	rows := []struct {
		script string
		lines  int
	}{
		{"", 0}, {"\n", 1}, {"\n\n\n", 3}, {strings.Repeat("\n", 50), 50}, {strings.Repeat("\n", 51), -1}, {strings.Repeat("\n", 3000), -1}, {strings.Repeat("\n", 3001), -1},
		{"show", -1}, {"show\n", 1}, {"show\nshow", -1}, {"show\n\n", 2}, {"\nshow\n", 2}, {"\nshow", -1}, {"show\n ", -1}, {"show\r", -1}, {"show\r\n", 1}, {" ", -1}, {"x", -1}, {"\x00", -1},
		{strings.Repeat("show\n", 49), 49}, {strings.Repeat("show\n", 50), 50}, {strings.Repeat("show\n", 51), -1}, {strings.Repeat("show\n", 50) + "show", -1}, {strings.Repeat("show\n", 49) + "show", -1}, {strings.Repeat("\n", 50) + " ", -1},
		{strings.Repeat("x", 2998) + "\n", 1}, {strings.Repeat("x", 2999) + "\n", 1}, {strings.Repeat("x", 3000) + "\n", -1}, {strings.Repeat("x", 3000), -1}, {strings.Repeat("x", 2999), -1},
		{longest + strings.Repeat("x", 54) + "\nshow\n", -1}, {longest + "show\n", 50}, {longest + strings.Repeat(" ", 59) + "\n", 50}, {longest + strings.Repeat(" ", 60) + "\n", -1},
		{strings.Repeat("x", 2994) + "\nshow\n", 2}, {strings.Repeat("x", 2995) + "\nshow\n", -1}, {"show\n" + strings.Repeat("\xff", 2994) + "\n", 2}, {"show\n" + strings.Repeat("\xff", 2995) + "\n", -1},
		{strings.Repeat("show\n", 100000), -1}, {strings.Repeat("x", 1000000) + "\n", -1},
	}
	for _, r := range rows {
		checkScript(t, r.script)
		replies, ok := impl.RunScript(r.script)
		if ok != (r.lines >= 0) || len(replies) != max(r.lines, 0) {
			t.Errorf("RunScript %.20q of %d bytes: got %d replies, %v; want %d", r.script, len(r.script), len(replies), ok, r.lines)
		}
	}
	for _, s := range []string{"", "show\n", "\n\n"} {
		behind, ok := impl.DeskAfter(s)
		expect(t, fmt.Sprintf("DeskAfter %q", s), behind, ok, dsk(am(1, 1), am(0, 1)), true)
	}
	for _, s := range []string{"fuel 2", "fuel 2\nfuel 3", strings.Repeat("fuel 2\n", 51), "fuel 2\n" + strings.Repeat("x", 2993) + "\n"} {
		behind, ok := impl.DeskAfter(s)
		expect(t, fmt.Sprintf("DeskAfter %.20q", s), behind, ok, desk{}, false)
	}
}

func TestFailedLines(t *testing.T) {
	rows := []struct {
		script string
		want   []int
	}{
		{"", nil}, {"show\n", nil}, {"cross\nreturn\nway 9\ncross\nreturn\n", nil}, {"depots 0\nunits\n", nil}, {"\n", []int{1}}, {"fly\n", []int{1}}, {"less 9\n", []int{1}},
		{"\n\nshow\n\n", []int{1, 2, 4}}, {"no\nnot\nyes\nwhat\n-\n", []int{1, 2, 3, 4, 5}}, {"show\nfly\nless 9\nshow\nless 9\nfly\n", []int{2, 3, 5, 6}},
		{strings.Repeat("show\n", 49) + "fly\n", []int{50}}, {strings.Repeat("\n", 50), numbers(1, 50)}, {strings.Repeat("less 2\n", 50), numbers(1, 50)},
		{strings.Repeat("less 0+1/2\n", 4), []int{3, 4}}, {"fly\nfuel 2\n fuel 3\nshow\n", []int{1, 3}},
	}
	for _, r := range rows {
		checkScript(t, r.script)
		failed, ok := impl.FailedLines(r.script)
		expectList(t, fmt.Sprintf("FailedLines %.40q", r.script), failed, ok, r.want, true)
	}
}

// lineByChance makes a line of the table, and sometimes one that is wrong in one way.
func lineByChance(draw *rand.Rand) string {
	table := deskTable()
	l := table[draw.IntN(len(table))]
	words := []string{l.name}
	for _, kind := range l.shape {
		words = append(words, wordByChance(draw, kind))
	}
	i := draw.IntN(len(words))
	switch draw.IntN(20) {
	case 0:
		words = slices.Insert(words, i, "")
	case 1:
		words = append(words, wordByChance(draw, 'N'))
	case 2:
		words = slices.Delete(words, i, i+1)
	case 3:
		words[i] = wrongAmounts()[draw.IntN(len(wrongAmounts()))]
	case 4:
		return bytesByChance(draw, draw.IntN(12))
	}
	return strings.Join(words, " ")
}

func wordByChance(draw *rand.Rand, kind rune) string {
	if kind == 'A' {
		den := []int{1, 1 + draw.IntN(12), 1 + draw.IntN(12), 1 + draw.IntN(999)}[draw.IntN(4)]
		return textByHand(amountNear(draw, den, []int{1, 2, 2, 12, 999999}[draw.IntN(5)]))
	}
	return strconv.Itoa([]int{draw.IntN(7), draw.IntN(22), draw.IntN(120), draw.IntN(1000000)}[draw.IntN(4)])
}

// bytesByChance has all bytes but newlines.
func bytesByChance(draw *rand.Rand, count int) string {
	b := make([]byte, count)
	for i := range b {
		b[i] = byte(11 + draw.IntN(255))
	}
	return string(b)
}

// TestScriptsByChance has scripts that are told line by line, and whose first lines alone have the same replies.
func TestScriptsByChance(t *testing.T) {
	draw := rand.New(rand.NewPCG(10, 10))
	seen := map[string]int{}
	for range 1500 {
		count := draw.IntN(20)
		if draw.IntN(10) == 0 {
			count = 45 + draw.IntN(8)
		}
		var script strings.Builder
		for range count {
			script.WriteString(lineByChance(draw) + "\n")
		}
		checkScript(t, script.String())
		checkFirstLines(t, script.String(), seen)
	}
	for _, l := range deskTable() {
		// In a script, all that these lines tell has a text.
		never := l.name == "fuel" || l.name == "way" || l.name == "show"
		if seen[l.name] < 100 || never != (seen[l.name+" no"] == 0) {
			t.Error("too few replies to", l.name, seen[l.name], seen[l.name+" no"])
		}
	}
}

// checkFirstLines executes a text line by line, with DeskLine, and as scripts that become longer.
func checkFirstLines(t *testing.T, script string, seen map[string]int) {
	t.Helper()
	all, ok := impl.RunScript(script)
	if !ok {
		return
	}
	d, first := impl.FirstDesk(), ""
	for i, line := range strings.SplitAfter(script, "\n")[:len(all)] {
		first += line
		behind, reply, ok := impl.DeskLine(d, strings.TrimSuffix(line, "\n"))
		expect(t, fmt.Sprintf("line %d of %q", i+1, script), reply, ok, all[i], true)
		d = behind
		replies, ok := impl.RunScript(first)
		expectList(t, fmt.Sprintf("RunScript %q", first), replies, ok, all[:i+1], true)
		after, ok := impl.DeskAfter(first)
		expect(t, fmt.Sprintf("DeskAfter %q", first), after, ok, d, true)
		name, _, _ := strings.Cut(strings.TrimSuffix(line, "\n"), " ")
		if reply == "no" {
			name += " no"
		}
		if reply != "what" {
			seen[name]++
		}
	}
}

// TestLinesOnManyDesks has each line of the table on desks with amounts of all sizes.
func TestLinesOnManyDesks(t *testing.T) {
	draw := rand.New(rand.NewPCG(10, 20))
	amounts := append(someAmounts(), nearJeepLimits()...)
	for _, fuel := range amounts {
		way := amounts[draw.IntN(len(amounts))]
		for _, l := range deskTable() {
			words := []string{l.name}
			for _, kind := range l.shape {
				words = append(words, wordByChance(draw, kind))
			}
			checkLine(t, dsk(fuel, way), strings.Join(words, " "))
			checkLine(t, dsk(way, fuel), strings.Join(words, " "))
		}
	}
}

// TestTextsOfAnyBytes has texts of bytes by chance, and of bytes that matter.
func TestTextsOfAnyBytes(t *testing.T) {
	draw := rand.New(rand.NewPCG(10, 30))
	tokens := []string{"\n", "\n", " ", "fuel", "way", "show", "depots", "cans", "units", "reach", "need", "less", "0", "1", "3", "+", "/", "2+1/2", "\x00", "\xff", "\r"}
	for range 4000 {
		var text strings.Builder
		for range draw.IntN(40) {
			text.WriteString(tokens[draw.IntN(len(tokens))])
		}
		s := text.String() + bytesByChance(draw, draw.IntN(3))
		checkScript(t, s)
		checkScript(t, s+"\n")
		checkLine(t, dsk(am(2, 1), am(4, 5)), s)
	}
	for _, count := range []int{100, 2999, 3000, 3001, 10000} {
		checkScript(t, bytesByChance(draw, count-1)+"\n")
		checkLine(t, impl.FirstDesk(), bytesByChance(draw, count))
	}
}

// TestScriptListsAreNew changes results, and looks at those of other calls.
func TestScriptListsAreNew(t *testing.T) {
	script := "show\nfly\nfuel 2\nless 9\n"
	for range 2 {
		replies, ok := impl.RunScript(script)
		expectList(t, "RunScript", replies, ok, []string{"1 0", "what", "2", "no"}, true)
		scrambled(replies)
		failed, ok := impl.FailedLines(script)
		expectList(t, "FailedLines", failed, ok, []int{2, 4}, true)
		scrambled(failed)
		behind, ok := impl.DeskAfter(script)
		expect(t, "DeskAfter", behind, ok, dsk(am(2, 1), am(0, 1)), true)
	}
}
