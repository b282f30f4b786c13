package zone_test

import (
	"fmt"
	"math/rand/v2"
	"slices"
	"strings"
	"testing"

	"hailstone/api"
	"hailstone/zone"
)

func ints(l ...int) []int { return l }

func to(low, high int) zone.Range { return zone.Range{Lo: low, Hi: high} }

func at(n int) zone.Range { return to(n, n) }

// history is a zone with its rule.
type history struct {
	r zone.Rule
	z zone.Zone
}

func year(losses, premiums zone.Range, parcels int) zone.Year {
	return zone.Year{Losses: losses, Premiums: premiums, Parcels: parcels}
}

// chapter is the zone of the chapter's examples.
func chapter() history {
	return history{
		zone.Rule{Classes: 4, Good: 40, Bad: 120, Rest: 1, Fewest: 5, Price: ints(10, 20, 40, 80)},
		zone.Zone{First: 1, Years: []zone.Year{
			year(at(50), to(100, 102), 9),
			year(to(130, 131), to(108, 109), 9),
			year(at(10), at(100), 3),
			year(at(30), at(100), 9),
			year(to(39, 41), at(100), 9),
		}},
	}
}

// exemptYear is the letter of a year that is Exempt.
const exemptYear = '-'

// ofLetter is a year of which is known of which kinds it is, by Good 40 and Bad 40.
func ofLetter(letter rune) zone.Year {
	switch letter {
	case 'g': // good
		return year(at(39), at(100), 5)
	case 'n': // neither
		return year(at(40), at(100), 5)
	case 'b': // bad
		return year(at(41), at(100), 5)
	case 'G': // good or neither
		return year(to(39, 40), at(100), 5)
	case 'B': // neither or bad
		return year(to(40, 41), at(100), 5)
	case 'x': // good or bad
		return year(to(39, 40), at(99), 5)
	case '?': // of any kind
		return year(to(39, 41), at(100), 5)
	case '.': // it would be bad, but has too few parcels
		return year(at(41), at(100), 4)
	case exemptYear: // it would be of any kind
		return zone.Year{Losses: to(38, 43), Premiums: at(100), Parcels: 5, Exempt: true}
	}
	panic("no such letter")
}

// lettered is a zone with a year of each letter.
func lettered(classes, rest, first int, letters string) history {
	h := history{zone.Rule{Classes: classes, Good: 40, Bad: 40, Rest: rest, Fewest: 5}, zone.Zone{First: first}}
	for class := range classes {
		h.r.Price = append(h.r.Price, 10+10*class)
	}
	for _, letter := range letters {
		h.z.Years = append(h.z.Years, ofLetter(letter))
	}
	return h
}

// roomy copies the list, with room behind it in which zeros show that nothing was appended.
func roomy[T any](l []T) []T { return append(make([]T, 0, len(l)+2), l...) }

func behind[T any](l []T) string { return fmt.Sprint(l[len(l) : len(l)+2]) }

func clone(h history) history {
	h.r.Price, h.z.Years = roomy(h.r.Price), roomy(h.z.Years)
	return h
}

// same reports whether the clone is still the same, and the room behind its lists too.
func same(h, before history) bool {
	text := func(h history) string { return fmt.Sprint(h) + behind(h.r.Price) + behind(h.z.Years) }
	return text(h) == text(clone(before))
}

func has(r zone.Range, n int) bool { return n >= r.Lo && n <= r.Hi }

// width is how many numbers the range has.
func width(r zone.Range) int { return r.Hi - r.Lo + 1 }

func numberOf(h history) int {
	number := 1
	for _, y := range h.z.Years {
		number *= width(y.Losses) * width(y.Premiums)
	}
	return number
}

// truths are all truths of the zone. They are counted like the digits of a number.
func truths(h history) []zone.Truth {
	var list []zone.Truth
	for code := range numberOf(h) {
		digit := func(r zone.Range) int {
			d := code % width(r)
			code /= width(r)
			return r.Lo + d
		}
		var t zone.Truth
		for _, y := range h.z.Years {
			t.Losses = append(t.Losses, digit(y.Losses))
			t.Premiums = append(t.Premiums, digit(y.Premiums))
		}
		list = append(list, t)
	}
	return list
}

// someTruth is any truth of the zone.
func someTruth(r *rand.Rand, h history) zone.Truth {
	var t zone.Truth
	for _, y := range h.z.Years {
		t.Losses = append(t.Losses, y.Losses.Lo+r.IntN(width(y.Losses)))
		t.Premiums = append(t.Premiums, y.Premiums.Lo+r.IntN(width(y.Premiums)))
	}
	return t
}

func counts(r zone.Rule, y zone.Year) bool { return !y.Exempt && y.Parcels >= r.Fewest }

// letterOf is the kind of a year with these losses and premiums: good, bad, neither, or - if it does not count.
func letterOf(r zone.Rule, y zone.Year, losses, premiums int) string {
	if !counts(r, y) {
		return "-"
	}
	if losses*100 < premiums*r.Good {
		return "g"
	}
	if losses*100 > premiums*r.Bad {
		return "b"
	}
	return "n"
}

// letters are all kinds that the year can be.
func letters(r zone.Rule, y zone.Year) string {
	all := ""
	for losses := y.Losses.Lo; losses <= y.Losses.Hi; losses++ {
		for premiums := y.Premiums.Lo; premiums <= y.Premiums.Hi; premiums++ {
			if l := letterOf(r, y, losses, premiums); !strings.Contains(all, l) {
				all += l
			}
		}
	}
	return all
}

// words are all lists of kinds that the years can be, if those that are false can be any.
func words(h history, lies ...int) []string {
	all := []string{""}
	for n, y := range h.z.Years {
		kinds := letters(h.r, y)
		if slices.Contains(lies, n) && kinds != "-" {
			kinds = "gnb"
		}
		var longer []string
		for _, word := range all {
			for _, kind := range kinds {
				longer = append(longer, word+string(kind))
			}
		}
		all = longer
	}
	return all
}

// classesOf are the classes after each year, if its kinds are those of the word.
func classesOf(h history, word string) []int {
	var all []int
	class := h.z.First
	for n, kind := range word {
		switch {
		case kind == 'b' && class < h.r.Classes-1:
			class++
		case kind == 'g' && class > 0 && rested(word[:n], h.r.Rest):
			class--
		}
		all = append(all, class)
	}
	return all
}

// rested looks back at the years that count.
func rested(before string, rest int) bool {
	counting := strings.ReplaceAll(before, "-", "")
	return !strings.Contains(counting[max(0, len(counting)-rest):], "b")
}

// wordOf is the kinds of the years in the truth.
func wordOf(h history, t zone.Truth) string {
	word := ""
	for n, y := range h.z.Years {
		word += letterOf(h.r, y, t.Losses[n], t.Premiums[n])
	}
	return word
}

// lastOf is the class after all years, First if there are none.
func lastOf(h history, classes []int) int {
	if len(classes) == 0 {
		return h.z.First
	}
	return classes[len(classes)-1]
}

// subsets are all increasing lists of numbers below n, the shorter ones first, those of one length in lexicographic order.
func subsets(n int) [][]int {
	var all [][]int
	for mask := range 1 << n {
		var l []int
		for i := range n {
			if mask>>i&1 == 1 {
				l = append(l, i)
			}
		}
		all = append(all, l)
	}
	slices.SortFunc(all, func(a, b []int) int {
		if len(a) != len(b) {
			return len(a) - len(b)
		}
		return slices.Compare(a, b)
	})
	return all
}

// widen returns the range with the number in it; first says that there was no number before.
func widen(r zone.Range, n int, first bool) zone.Range {
	if first {
		return at(n)
	}
	return to(min(r.Lo, n), max(r.Hi, n))
}

// answers are what the calls return of a zone.
type answers struct {
	reach    [][]int // for each year
	moves    []int   // for each year
	next     zone.Range
	deciding []int
	lies     map[int][]int // the false years for each class; a class that it does not have can never be had
}

// modelOf is what the calls have to return: it tries all lists of kinds.
func modelOf(h history) answers {
	a := answers{lies: map[int][]int{}}
	a.addClasses(h)
	for n, y := range h.z.Years {
		if len(letters(h.r, y)) > 1 {
			a.deciding = append(a.deciding, n)
		}
	}
	for _, l := range subsets(len(h.z.Years)) {
		for _, word := range words(h, l...) {
			class := lastOf(h, classesOf(h, word))
			if _, found := a.lies[class]; !found {
				a.lies[class] = l
			}
		}
		if len(a.lies) == h.r.Classes {
			break
		}
	}
	return a
}

func (a *answers) addClasses(h history) {
	n := len(h.z.Years)
	a.reach, a.moves = make([][]int, n), make([]int, n)
	moved, stayed := make([]bool, n), make([]bool, n)
	for i, word := range words(h) {
		before, all := h.z.First, classesOf(h, word)
		for k, class := range all {
			if !slices.Contains(a.reach[k], class) {
				a.reach[k] = append(a.reach[k], class)
			}
			moved[k], stayed[k] = moved[k] || class != before, stayed[k] || class == before
			before = class
		}
		a.next = widen(a.next, h.r.Price[before], i == 0)
	}
	for k := range n {
		slices.Sort(a.reach[k])
		a.moves[k] = kindOfMove(moved[k], stayed[k])
	}
}

func kindOfMove(moved, stayed bool) int {
	if moved && stayed {
		return zone.Perhaps
	}
	if moved {
		return zone.Always
	}
	return zone.Never
}

// ask makes all calls that take no truth, for all years and classes. The zone and its rule must be valid.
func ask(t *testing.T, h history) answers {
	t.Helper()
	if e := zone.CheckZone(h.r, h.z); e != api.OK {
		t.Fatalf("CheckZone of %v: %v", h, e)
	}
	a := answers{lies: map[int][]int{}}
	var e api.Errno
	ok := func(call string) {
		t.Helper()
		if e != api.OK {
			t.Fatalf("%s of %v: %v", call, h, e)
		}
	}
	for n := range h.z.Years {
		var classes []int
		var move int
		classes, e = zone.Reach(h.r, h.z, n)
		ok("Reach")
		move, e = zone.Moves(h.r, h.z, n)
		ok("Moves")
		a.reach, a.moves = append(a.reach, classes), append(a.moves, move)
	}
	a.next, e = zone.Next(h.r, h.z)
	ok("Next")
	a.deciding, e = zone.Deciding(h.r, h.z)
	ok("Deciding")
	for class := range h.r.Classes {
		l, e := zone.False(h.r, h.z, class)
		switch {
		case e == api.OK:
			a.lies[class] = l
		case e != api.ErrNone || len(l) > 0:
			t.Fatalf("False of %v for %d: %v, %v", h, class, l, e)
		}
	}
	return a
}

// play asks the package for the classes in the truth, which must be one of the zone.
func play(t *testing.T, h history, truth zone.Truth) []int {
	t.Helper()
	classes, e := zone.Play(h.r, h.z, truth)
	if e != api.OK || len(classes) != len(h.z.Years) {
		t.Fatalf("Play of %v, %v: %v, %v", h, truth, classes, e)
	}
	return classes
}

// reached are the classes that the zone can have after its last year.
func (a answers) reached(h history) []int {
	if len(a.reach) == 0 {
		return ints(h.z.First)
	}
	return a.reach[len(a.reach)-1]
}

// reached asks the package for the classes after the last year.
func reached(t *testing.T, h history) []int {
	t.Helper()
	if len(h.z.Years) == 0 {
		return ints(h.z.First)
	}
	l, e := zone.Reach(h.r, h.z, len(h.z.Years)-1)
	if e != api.OK {
		t.Fatalf("Reach of %v: %v, %v", h, l, e)
	}
	return l
}

// everything is what all calls return, as a text.
func everything(h history, truth zone.Truth, year, class int) string {
	text := fmt.Sprintln(zone.CheckZone(h.r, h.z))
	l, e := zone.Play(h.r, h.z, truth)
	text += fmt.Sprintln(l, e)
	l, e = zone.Reach(h.r, h.z, year)
	text += fmt.Sprintln(l, e)
	n, e := zone.Moves(h.r, h.z, year)
	text += fmt.Sprintln(n, e)
	next, e := zone.Next(h.r, h.z)
	text += fmt.Sprintln(next, e)
	l, e = zone.Deciding(h.r, h.z)
	text += fmt.Sprintln(l, e)
	l, e = zone.False(h.r, h.z, class)
	return text + fmt.Sprintln(l, e, zone.ProveClass(h.r, h.z, truth, class))
}

// someRange is a valid range around the number.
func someRange(r *rand.Rand, n, wide int) zone.Range {
	low := min(max(0, n-r.IntN(wide+1)), 10000)
	return to(low, min(10000, low+r.IntN(wide+1)))
}

func someRule(r *rand.Rand) zone.Rule {
	rule := zone.Rule{
		Classes: ints(1, 2, 3, 4, 4, 5, 5, 6, 6)[r.IntN(9)],
		Good:    ints(0, 40, 50, 50, 100, 100, 150, r.IntN(301))[r.IntN(8)],
		Rest:    ints(0, 1, 1, 2, 2, 3, 4)[r.IntN(7)],
		Fewest:  ints(0, 5, 5, 50, 100)[r.IntN(5)],
	}
	rule.Bad = min(300, rule.Good+ints(0, 0, 1, 2, 20, r.IntN(100))[r.IntN(6)])
	price := 1 + r.IntN(20)
	for range rule.Classes {
		rule.Price = append(rule.Price, price)
		price += ints(0, 1, r.IntN(50))[r.IntN(3)]
	}
	return rule
}

// someYear has losses that are often near the ends of what is good or bad.
func someYear(r *rand.Rand, rule zone.Rule, wide int) zone.Year {
	premiums := ints(r.IntN(4), r.IntN(30), r.IntN(30), 90+r.IntN(20), 1000+r.IntN(2000))[r.IntN(5)]
	losses := ints(premiums*rule.Good/100, premiums*rule.Good/100, premiums*rule.Bad/100, premiums*rule.Bad/100, r.IntN(2*premiums+1), 0, 3*premiums)[r.IntN(7)]
	y := year(someRange(r, losses+r.IntN(3), wide), someRange(r, premiums, wide), ints(rule.Fewest, min(100, rule.Fewest+1), 100)[r.IntN(3)])
	if r.IntN(9) == 0 && rule.Fewest > 0 {
		y.Parcels = ints(rule.Fewest-1, 0)[r.IntN(2)]
	}
	y.Exempt = r.IntN(9) == 0
	return y
}

// histories are some valid zones with their rules, made by a fixed rule; the ranges have at most one number more than wide says.
func histories(seed uint64, number, wide int) []history {
	r := rand.New(rand.NewPCG(seed, 11))
	var all []history
	for range number {
		h := history{r: someRule(r)}
		h.z.First = r.IntN(h.r.Classes)
		least := ints(0, 0, wide)[r.IntN(3)]
		for range ints(0, 1, 2, 3, 4, 5, 5, 6, 6)[r.IntN(9)] {
			h.z.Years = append(h.z.Years, someYear(r, h.r, least+r.IntN(wide-least+1)))
		}
		all = append(all, h)
	}
	return all
}

// known are some of them with at most 300 truths.
func known(seed uint64, number int) []history {
	var all []history
	for _, h := range histories(seed, 9*number, 3) {
		if numberOf(h) <= 300 && len(all) < number {
			all = append(all, h)
		}
	}
	return all
}
