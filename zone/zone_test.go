package zone_test

import (
	"fmt"
	"math"
	"slices"
	"testing"

	"hailstone/api"
	"hailstone/zone"
)

// TestExamples has the examples of the chapter.
func TestExamples(t *testing.T) {
	h := chapter()
	for _, x := range []struct{ losses, premiums, want []int }{
		{ints(50, 130, 10, 30, 39), ints(100, 109, 100, 100, 100), ints(1, 1, 1, 0, 0)},
		{ints(50, 131, 10, 30, 39), ints(100, 108, 100, 100, 100), ints(1, 2, 2, 2, 1)},
	} {
		truth := zone.Truth{Losses: x.losses, Premiums: x.premiums}
		if l := play(t, h, truth); !slices.Equal(l, x.want) {
			t.Errorf("Play of %v: %v, not %v", truth, l, x.want)
		}
		for class := range 4 {
			if is := zone.ProveClass(h.r, h.z, truth, class); is != (class == x.want[4]) {
				t.Errorf("ProveClass of %v, %d: %v", truth, class, is)
			}
		}
	}
	a := ask(t, h)
	if want := [][]int{{1}, {1, 2}, {1, 2}, {0, 2}, {0, 1, 2}}; !slices.EqualFunc(a.reach, want, slices.Equal[[]int]) {
		t.Errorf("Reach: %v, not %v", a.reach, want)
	}
	if want := ints(zone.Never, zone.Perhaps, zone.Never, zone.Perhaps, zone.Perhaps); !slices.Equal(a.moves, want) {
		t.Errorf("Moves: %v, not %v", a.moves, want)
	}
	if a.next != to(10, 40) || !slices.Equal(a.deciding, ints(1, 4)) {
		t.Errorf("Next, Deciding: %v, %v", a.next, a.deciding)
	}
	for class, want := range [][]int{nil, nil, nil, {0}} {
		if l, found := a.lies[class]; !found || !slices.Equal(l, want) {
			t.Errorf("False for %d: %v, %v, not %v", class, l, found, want)
		}
	}
}

// TestExampleOfDocument has the eleventh example of the document.
func TestExampleOfDocument(t *testing.T) {
	for _, x := range []struct {
		rest int
		want []int
	}{{1, ints(2, 2)}, {0, ints(2, 1)}} {
		h := lettered(4, x.rest, 1, "bg")
		if l := play(t, h, truths(h)[0]); !slices.Equal(l, x.want) {
			t.Errorf("Play with the Rest %d: %v, not %v", x.rest, l, x.want)
		}
	}
}

// TestKindOfYear has which years are good or bad, by one year of the class 1 of 3.
func TestKindOfYear(t *testing.T) {
	for _, x := range []struct {
		name              string
		good, bad, fewest int
		year              zone.Year
		want              int
	}{
		{"just good", 40, 120, 5, year(at(39), at(100), 9), 0},
		{"just not good", 40, 120, 5, year(at(40), at(100), 9), 1},
		{"good by a hundredth of a penny", 40, 120, 5, year(at(3), at(8), 9), 0},
		{"not good by a fraction of a penny", 40, 120, 5, year(at(4), at(9), 9), 1},
		{"just good, by the premiums", 40, 120, 5, year(at(40), at(101), 9), 0},
		{"just not bad", 40, 120, 5, year(at(120), at(100), 9), 1},
		{"just bad", 40, 120, 5, year(at(121), at(100), 9), 2},
		{"just bad, by the premiums", 40, 120, 5, year(at(120), at(99), 9), 2},
		{"not bad by a fraction of a penny", 40, 120, 5, year(at(4), at(4), 9), 1},
		{"bad by a fraction of a penny", 40, 120, 5, year(at(5), at(4), 9), 2},
		{"nothing", 40, 120, 5, year(at(0), at(0), 9), 1},
		{"no losses", 40, 120, 5, year(at(0), at(1), 9), 0},
		{"no premiums", 40, 120, 5, year(at(1), at(0), 9), 2},
		{"no losses, and Good is 0", 0, 120, 5, year(at(0), at(10000), 9), 1},
		{"no losses, and Good and Bad are 0", 0, 0, 5, year(at(0), at(10000), 9), 1},
		{"a loss, and Bad is 0", 0, 0, 5, year(at(1), at(10000), 9), 2},
		{"the greatest losses", 300, 300, 5, year(at(10000), at(3333), 9), 2},
		{"the greatest premiums", 1, 1, 5, year(at(99), at(10000), 9), 0},
		{"as many as Good and Bad", 300, 300, 5, year(at(9999), at(3333), 9), 1},
		{"between equal Good and Bad", 100, 100, 5, year(at(77), at(77), 9), 1},
		{"below equal Good and Bad", 100, 100, 5, year(at(76), at(77), 9), 0},
		{"above equal Good and Bad", 100, 100, 5, year(at(78), at(77), 9), 2},
		{"just as many parcels", 40, 120, 9, year(at(39), at(100), 9), 0},
		{"a bad year with just as many parcels", 40, 120, 9, year(at(121), at(100), 9), 2},
		{"too few parcels", 40, 120, 10, year(at(39), at(100), 9), 1},
		{"a bad year with too few parcels", 40, 120, 10, year(at(121), at(100), 9), 1},
		{"no parcels, and none are needed", 40, 120, 0, year(at(39), at(100), 0), 0},
		{"no parcels, and one is needed", 40, 120, 1, year(at(39), at(100), 0), 1},
		{"the most parcels", 40, 120, 100, year(at(39), at(100), 100), 0},
		{"Exempt", 40, 120, 5, zone.Year{Losses: at(39), Premiums: at(100), Parcels: 9, Exempt: true}, 1},
		{"a bad year that is Exempt", 40, 120, 5, zone.Year{Losses: at(121), Premiums: at(100), Parcels: 9, Exempt: true}, 1},
	} {
		h := history{zone.Rule{Classes: 3, Good: x.good, Bad: x.bad, Rest: 2, Fewest: x.fewest, Price: ints(1, 2, 3)}, zone.Zone{First: 1, Years: []zone.Year{x.year}}}
		if l := play(t, h, truths(h)[0]); !slices.Equal(l, ints(x.want)) {
			t.Errorf("%s: Play: %v, not %d", x.name, l, x.want)
		}
		a := ask(t, h)
		move := kindOfMove(x.want != 1, x.want == 1)
		if !slices.Equal(a.reach[0], ints(x.want)) || a.moves[0] != move || a.next != at(x.want+1) || len(a.deciding) > 0 {
			t.Errorf("%s: the calls return %v", x.name, a)
		}
	}
}

// TestClasses has P11.1 for years of which all is known.
func TestClasses(t *testing.T) {
	for _, x := range []struct {
		name                 string
		classes, rest, first int
		letters              string
		want                 []int
	}{
		{"no years", 4, 1, 2, "", nil},
		{"bad years", 6, 1, 1, "bbbb", ints(2, 3, 4, 5)},
		{"bad years in the greatest class", 4, 1, 2, "bbb", ints(3, 3, 3)},
		{"bad years in the greatest class of all", 6, 1, 5, "bb", ints(5, 5)},
		{"good years", 6, 4, 5, "gggggg", ints(4, 3, 2, 1, 0, 0)},
		{"good years in the class 0", 4, 1, 1, "ggg", ints(0, 0, 0)},
		{"a single class", 1, 1, 0, "bgbg", ints(0, 0, 0, 0)},
		{"two classes", 2, 0, 0, "bgbbgg", ints(1, 0, 1, 1, 0, 0)},
		{"neither", 4, 1, 2, "nnn", ints(2, 2, 2)},
		{"years that do not count", 4, 1, 2, ".-.-", ints(2, 2, 2, 2)},

		{"no Rest", 4, 0, 1, "bgbg", ints(2, 1, 2, 1)},
		{"a Rest of 1, not over", 4, 1, 1, "bg", ints(2, 2)},
		{"a Rest of 1, over", 4, 1, 1, "bgg", ints(2, 2, 1)},
		{"a Rest of 1, over a year that is neither", 4, 1, 1, "bng", ints(2, 2, 1)},
		{"a Rest of 2, not over", 4, 2, 1, "bng", ints(2, 2, 2)},
		{"a Rest of 2, over", 4, 2, 1, "bngg", ints(2, 2, 2, 1)},
		{"a Rest of 3", 4, 3, 1, "bggggg", ints(2, 2, 2, 2, 1, 0)},
		{"the greatest Rest", 4, 4, 1, "bngngg", ints(2, 2, 2, 2, 2, 1)},
		{"the greatest Rest is not over", 4, 4, 1, "bngng", ints(2, 2, 2, 2, 2)},
		{"a Rest begins again", 4, 2, 1, "bngbgg", ints(2, 2, 2, 3, 3, 3)},
		{"a Rest begins again after it was over", 4, 1, 1, "bngbgg", ints(2, 2, 1, 2, 2, 1)},
		{"a Rest after bad years in the greatest class", 2, 1, 1, "bgg", ints(1, 1, 0)},
		{"fewer years than the Rest", 4, 4, 2, "ggg", ints(1, 0, 0)},
		{"fewer years than the Rest, one of them bad", 4, 4, 2, "gbg", ints(1, 2, 2)},

		{"a Rest is not over by years that do not count", 4, 1, 1, "b.g", ints(2, 2, 2)},
		{"nor by those that are Exempt", 4, 1, 1, "b-g", ints(2, 2, 2)},
		{"it is over after one that counts", 4, 1, 1, "b.-ng", ints(2, 2, 2, 2, 1)},
		{"a Rest of 2 is over after two that count", 4, 2, 1, "b.g-gg", ints(2, 2, 2, 2, 2, 1)},
		{"a bad year that does not count needs no Rest", 4, 4, 2, ".g", ints(2, 1)},
	} {
		h := lettered(x.classes, x.rest, x.first, x.letters)
		if l := play(t, h, truths(h)[0]); !slices.Equal(l, x.want) {
			t.Errorf("%s: Play: %v, not %v", x.name, l, x.want)
		}
		if a, m := ask(t, h), modelOf(h); fmt.Sprint(a) != fmt.Sprint(m) {
			t.Errorf("%s: the calls return %v, not %v", x.name, a, m)
		}
		last := lastOf(h, x.want)
		if next, e := zone.Next(h.r, h.z); next != at(10+10*last) || e != api.OK {
			t.Errorf("%s: Next: %v, %v", x.name, next, e)
		}
		for class := -1; class <= x.classes; class++ {
			if is := zone.ProveClass(h.r, h.z, truths(h)[0], class); is != (class == last) {
				t.Errorf("%s: ProveClass for %d: %v", x.name, class, is)
			}
		}
	}
}

// TestReach has P11.2 and P11.3 for years of which not all is known.
func TestReach(t *testing.T) {
	const always, never, perhaps = zone.Always, zone.Never, zone.Perhaps
	for _, x := range []struct {
		name                 string
		classes, rest, first int
		letters              string
		reach                [][]int
		moves                []int
		next                 zone.Range
		deciding             []int
	}{
		{"no years", 4, 1, 2, "", nil, nil, at(30), nil},
		{"good or neither", 4, 1, 2, "G", [][]int{{1, 2}}, ints(perhaps), to(20, 30), ints(0)},
		{"neither or bad", 4, 1, 2, "B", [][]int{{2, 3}}, ints(perhaps), to(30, 40), ints(0)},
		{"good or bad", 4, 1, 2, "x", [][]int{{1, 3}}, ints(always), to(20, 40), ints(0)},
		{"of any kind", 4, 1, 2, "?", [][]int{{1, 2, 3}}, ints(perhaps), to(20, 40), ints(0)},
		{"good or neither in the class 0", 4, 1, 0, "G", [][]int{{0}}, ints(never), at(10), ints(0)},
		{"neither or bad in the greatest class", 4, 1, 3, "B", [][]int{{3}}, ints(never), at(40), ints(0)},
		{"good or bad in the class 0", 4, 1, 0, "x", [][]int{{0, 1}}, ints(perhaps), to(10, 20), ints(0)},
		{"good or bad in the greatest class", 4, 1, 3, "x", [][]int{{2, 3}}, ints(perhaps), to(30, 40), ints(0)},
		{"of any kind, in a single class", 1, 1, 0, "??", [][]int{{0}, {0}}, ints(never, never), at(10), ints(0, 1)},
		{"good or bad, and bad", 6, 1, 2, "xb", [][]int{{1, 3}, {2, 4}}, ints(always, always), to(30, 50), ints(0)},
		{"good or bad, and good", 6, 1, 2, "xg", [][]int{{1, 3}, {0, 3}}, ints(always, perhaps), to(10, 40), ints(0)},
		{"good or bad, and good without Rest", 6, 0, 2, "xg", [][]int{{1, 3}, {0, 2}}, ints(always, always), to(10, 30), ints(0)},
		{"bad, and good or neither", 6, 1, 2, "bG", [][]int{{3}, {3}}, ints(always, never), at(40), ints(1)},
		{"bad, and good or neither without Rest", 6, 0, 2, "bG", [][]int{{3}, {2, 3}}, ints(always, perhaps), to(30, 40), ints(1)},
		{"one class, but not rested in each truth", 2, 1, 1, "Bg", [][]int{{1}, {0, 1}}, ints(never, perhaps), to(10, 20), ints(0)},
		{"what is known of the Rest is not forgotten", 3, 2, 1, "xnbg", [][]int{{0, 2}, {0, 2}, {1, 2}, {1, 2}}, ints(always, never, perhaps, never), to(20, 30), ints(0)},
		{"years that do not count in between", 6, 1, 2, "x.-g", [][]int{{1, 3}, {1, 3}, {1, 3}, {0, 3}}, ints(always, never, never, perhaps), to(10, 40), ints(0)},
		{"many", 6, 0, 2, "???", [][]int{{1, 2, 3}, {0, 1, 2, 3, 4}, {0, 1, 2, 3, 4, 5}}, ints(perhaps, perhaps, perhaps), to(10, 60), ints(0, 1, 2)},
		{"every other class", 6, 0, 3, "xx", [][]int{{2, 4}, {1, 3, 5}}, ints(always, always), to(20, 60), ints(0, 1)},
		{"what does not count does not decide", 4, 1, 2, "-G.B", [][]int{{2}, {1, 2}, {1, 2}, {1, 2, 3}}, ints(never, perhaps, never, perhaps), to(20, 40), ints(1, 3)},
	} {
		h := lettered(x.classes, x.rest, x.first, x.letters)
		a := ask(t, h)
		if !slices.EqualFunc(a.reach, x.reach, slices.Equal[[]int]) || !slices.Equal(a.moves, x.moves) {
			t.Errorf("%s: Reach, Moves: %v, %v, not %v, %v", x.name, a.reach, a.moves, x.reach, x.moves)
		}
		if a.next != x.next || !slices.Equal(a.deciding, x.deciding) {
			t.Errorf("%s: Next, Deciding: %v, %v, not %v, %v", x.name, a.next, a.deciding, x.next, x.deciding)
		}
		if m := modelOf(h); fmt.Sprint(a) != fmt.Sprint(m) {
			t.Errorf("%s: the calls return %v, not %v", x.name, a, m)
		}
	}
}

// TestPremiums has P11.3 for premiums that are not known, too.
func TestPremiums(t *testing.T) {
	for _, x := range []struct {
		name  string
		year  zone.Year
		reach []int
	}{
		{"good by the greatest premiums alone", year(at(40), to(98, 101), 9), ints(1, 2)},
		{"bad by the least premiums alone", year(at(120), to(99, 104), 9), ints(2, 3)},
		{"good by both ends alone", year(to(40, 42), to(98, 101), 9), ints(1, 2)},
		{"good by both ends not at all", year(to(41, 42), to(98, 102), 9), ints(2)},
		{"bad by both ends alone", year(to(118, 120), to(99, 100), 9), ints(2, 3)},
		{"bad by both ends not at all", year(to(118, 120), to(100, 101), 9), ints(2)},
		{"of any kind", year(to(1, 3), to(2, 3), 9), ints(1, 2, 3)},
		{"without premiums, or with them", year(at(0), to(0, 1), 9), ints(1, 2)},
		{"without losses, or with them", year(to(0, 1), at(0), 9), ints(2, 3)},
		{"good or bad, and neither in the middle", year(to(0, 5), to(1, 2), 9), ints(1, 2, 3)},
	} {
		h := chapter()
		h.z = zone.Zone{First: 2, Years: []zone.Year{x.year}}
		a := ask(t, h)
		if !slices.Equal(a.reach[0], x.reach) || (len(a.deciding) == 1) != (len(x.reach) > 1) {
			t.Errorf("%s: the calls return %v", x.name, a)
		}
		if m := modelOf(h); fmt.Sprint(a) != fmt.Sprint(m) {
			t.Errorf("%s: the calls return %v, not %v", x.name, a, m)
		}
	}
}

// TestPrices has P11.3 for prices that are equal.
func TestPrices(t *testing.T) {
	h := lettered(4, 0, 1, "??")
	for _, x := range []struct {
		prices []int
		want   zone.Range
	}{
		{ints(7, 7, 7, 7), at(7)},
		{ints(1, 7, 7, 10000), to(1, 10000)},
		{ints(1, 1, 7, 8), to(1, 8)},
		{ints(2, 3, 5, 5), to(2, 5)},
		{ints(10000, 10000, 10000, 10000), at(10000)},
	} {
		h.r.Price = x.prices
		if a := ask(t, h); a.next != x.want {
			t.Errorf("Next with %v: %v, not %v", x.prices, a.next, x.want)
		}
	}
	sure := lettered(3, 0, 1, "b")
	sure.r.Price = ints(10, 20, 30)
	if a := ask(t, sure); a.next != at(30) {
		t.Errorf("Next: %v", a.next)
	}
}

// TestFalse has P11.4.
func TestFalse(t *testing.T) {
	none := ints(-1)
	for _, x := range []struct {
		name                 string
		classes, rest, first int
		letters              string
		want                 [][]int // for each class
	}{
		{"no years", 3, 1, 1, "", [][]int{none, {}, none}},
		{"a year", 4, 1, 1, "n", [][]int{{0}, {}, {0}, none}},
		{"a good year", 4, 1, 1, "g", [][]int{{}, {0}, {0}, none}},
		{"a year of any kind", 4, 1, 1, "?", [][]int{{}, {}, {}, none}},
		{"a year that can be two kinds", 4, 1, 1, "x", [][]int{{}, {0}, {}, none}},
		{"a year that does not count", 3, 1, 1, ".", [][]int{none, {}, none}},
		{"a year that is Exempt", 3, 1, 1, "-", [][]int{none, {}, none}},
		{"a year that counts among others", 3, 1, 1, ".n-", [][]int{{1}, {}, {1}}},
		{"the first of two", 4, 1, 1, "nn", [][]int{{0}, {}, {0}, {0, 1}}},
		{"the second of two, as the first one is bad", 4, 1, 0, "bg", [][]int{{0}, {}, {1}, none}},
		{"both, as the first one is bad", 4, 1, 1, "bb", [][]int{{0, 1}, {0}, {0}, {}}},
		{"both for a class that one passes", 4, 1, 2, "bg", [][]int{{0}, {0}, {0, 1}, {}}},
		{"the second one, which keeps the Rest from being over", 4, 1, 2, "bgg", [][]int{{0}, {0, 1}, {}, {1}}},
		{"two that are not next to each other", 4, 3, 2, "bggg", [][]int{{0}, {0, 2}, {0, 1}, {}}},
		{"not the last one, as the zone has not rested", 4, 1, 3, "bbb", [][]int{{0, 1, 2}, {0, 1, 2}, {0, 1}, {}}},
		{"the last one alone, without Rest", 4, 0, 3, "bbb", [][]int{{0, 1, 2}, {1, 2}, {2}, {}}},
		{"all of them", 6, 4, 5, "bbbbb", [][]int{{0, 1, 2, 3, 4}, {0, 1, 2, 3, 4}, {0, 1, 2, 3}, {0, 1, 2, 3}, {0, 1, 2}, {}}},
		{"not the first one, after which the Rest would be over", 6, 4, 0, "gggggg", [][]int{{}, {1}, {0, 1}, {0, 1, 2}, {0, 1, 2, 3}, {0, 1, 2, 3, 4}}},
		{"some are not sure", 6, 4, 0, "GBGBGB", [][]int{{}, {}, {}, {}, {0}, {0, 2}}},
		{"too far up", 6, 4, 0, "n.n-n", [][]int{{}, {0}, {0, 2}, {0, 2, 4}, none, none}},
		{"too far down", 6, 4, 5, "n.n-n", [][]int{none, none, {0, 2, 4}, {0, 2}, {0}, {}}},
	} {
		h := lettered(x.classes, x.rest, x.first, x.letters)
		a := ask(t, h)
		for class, want := range x.want {
			l, found := a.lies[class]
			if found == slices.Equal(want, none) || found && !slices.Equal(l, want) {
				t.Errorf("%s: False for %d: %v, %v, not %v", x.name, class, l, found, want)
			}
		}
		if m := modelOf(h); fmt.Sprint(a) != fmt.Sprint(m) {
			t.Errorf("%s: the calls return %v, not %v", x.name, a, m)
		}
	}
}

// TestFalseAgainstTheRule has P11.4 for a rule by which no year can be good, or neither: a false year can be so nevertheless.
func TestFalseAgainstTheRule(t *testing.T) {
	h := lettered(3, 1, 2, "nn")
	h.r.Good, h.r.Bad = 0, 0
	a := ask(t, h)
	if !slices.Equal(a.reach[1], ints(2)) || !slices.Equal(a.lies[0], ints(0, 1)) || !slices.Equal(a.lies[1], ints(0, 1)) || len(a.lies) != 3 {
		t.Errorf("the calls return %v", a)
	}
	if m := modelOf(h); fmt.Sprint(a) != fmt.Sprint(m) {
		t.Errorf("the calls return %v, not %v", a, m)
	}
}

// TestProveClass has the last part of P11.1.
func TestProveClass(t *testing.T) {
	truth := func(losses, premiums []int) zone.Truth { return zone.Truth{Losses: losses, Premiums: premiums} }
	right := truth(ints(50, 131, 10, 30, 39), ints(100, 108, 100, 100, 100))
	change := func(change func(h *history)) history {
		h := clone(chapter())
		change(&h)
		return h
	}
	empty := history{chapter().r, zone.Zone{First: 2}}
	for _, x := range []struct {
		name  string
		h     history
		truth zone.Truth
		class int
		want  bool
	}{
		{"the class", chapter(), right, 1, true},
		{"one less", chapter(), right, 0, false},
		{"one more", chapter(), right, 2, false},
		{"no class", chapter(), right, 4, false},
		{"below 0", chapter(), right, -1, false},
		{"very great", chapter(), right, math.MaxInt, false},
		{"very small", chapter(), right, math.MinInt, false},
		{"no truth", chapter(), zone.Truth{}, 1, false},
		{"no losses", chapter(), truth(nil, right.Premiums), 1, false},
		{"no premiums", chapter(), truth(right.Losses, nil), 1, false},
		{"a loss outside", chapter(), truth(ints(50, 132, 10, 30, 39), right.Premiums), 1, false},
		{"a premium outside", chapter(), truth(right.Losses, ints(103, 108, 100, 100, 100)), 1, false},
		{"one year too many", chapter(), truth(append(slices.Clone(right.Losses), 0), append(slices.Clone(right.Premiums), 0)), 1, false},
		{"a rule that is not valid", change(func(h *history) { h.r.Rest = 5 }), right, 1, false},
		{"too many classes", change(func(h *history) { h.r.Classes = 7 }), right, 1, false},
		{"a year that is not valid", change(func(h *history) { h.z.Years[2].Parcels = 101 }), right, 1, false},
		{"a First that is no class", change(func(h *history) { h.z.First = 4 }), right, 1, false},
		{"no years", empty, zone.Truth{}, 2, true},
		{"no years, and empty lists", empty, truth(ints(), ints()), 2, true},
		{"no years, and another class", empty, zone.Truth{}, 1, false},
		{"no years, and a year of the truth", empty, truth(ints(0), ints(0)), 2, false},
		{"nothing", history{}, zone.Truth{}, 0, false},
	} {
		if is := zone.ProveClass(x.h.r, x.h.z, x.truth, x.class); is != x.want {
			t.Errorf("%s: ProveClass: %v", x.name, is)
		}
	}
}

// TestGreatest has zones with as many truths as there may be, and the greatest numbers.
func TestGreatest(t *testing.T) {
	wide := lettered(6, 4, 3, "??????")
	great := lettered(6, 3, 2, "??????")
	great.r.Good, great.r.Bad, great.r.Fewest = 300, 300, 100
	great.r.Price = ints(1, 10000, 10000, 10000, 10000, 10000)
	sure := lettered(6, 4, 5, "gggggg")
	sure.r.Good, sure.r.Bad = 300, 300
	for i := range 6 {
		wide.z.Years[i].Losses, wide.z.Years[i].Premiums = to(38, 43), to(97, 102)
		great.z.Years[i] = year(to(9995, 10000), to(3330, 3335), 100)
		sure.z.Years[i] = year(to(0, 5), to(9995, 10000), 100)
	}
	for _, h := range []history{wide, great, sure} {
		if n := numberOf(h); n != 36*36*36*36*36*36 {
			t.Errorf("%d truths", n)
		}
		if a, m := ask(t, h), modelOf(h); fmt.Sprint(a) != fmt.Sprint(m) {
			t.Errorf("the calls return %v of %v, not %v", a, h, m)
		}
	}
}

// TestMemory checks R4: arguments stay as they were, results can be written to, and equal calls return equal results.
func TestMemory(t *testing.T) {
	for i, h := range append(histories(1, 200, 5), chapter()) {
		if len(h.z.Years) == 0 {
			continue
		}
		year, class := i%len(h.z.Years), i%h.r.Classes
		arguments, truth := clone(h), zone.Truth{}
		for _, y := range h.z.Years {
			truth.Losses, truth.Premiums = append(truth.Losses, y.Losses.Hi), append(truth.Premiums, y.Premiums.Lo)
		}
		roomyTruth := zone.Truth{Losses: roomy(truth.Losses), Premiums: roomy(truth.Premiums)}
		first := everything(arguments, roomyTruth, year, class)
		l, _ := zone.Play(arguments.r, arguments.z, roomyTruth)
		writeTo(l)
		l, _ = zone.Reach(arguments.r, arguments.z, year)
		writeTo(l)
		l, _ = zone.Deciding(arguments.r, arguments.z)
		writeTo(l)
		l, _ = zone.False(arguments.r, arguments.z, class)
		writeTo(l)
		if everything(arguments, roomyTruth, year, class) != first {
			t.Fatalf("not the same again: %v", h)
		}
		if !same(arguments, h) || fmt.Sprint(roomyTruth) != fmt.Sprint(truth) || behind(roomyTruth.Losses)+behind(roomyTruth.Premiums) != "[0 0][0 0]" {
			t.Fatalf("written to: %v, %v", h, truth)
		}
	}
}

func writeTo(l []int) {
	for k := range l {
		l[k] = 77
	}
	_ = append(l, 77)
}
