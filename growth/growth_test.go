package growth_test

import (
	"slices"
	"testing"

	"hailstone/api"
	"hailstone/growth"
)

func TestNumbersOfVerdict(t *testing.T) {
	if l := ints(growth.Above, growth.NotAbove, growth.Open); !slices.Equal(l, ints(1, 2, 3)) {
		t.Errorf("the results of Verdict: %v", l)
	}
}

func TestExamples(t *testing.T) {
	s := chapter()
	if h := growth.Harvest(s, 0, truth(1, 60, 5)); h != 36 {
		t.Errorf("Harvest: %d", h)
	}
	b, e := growth.Bounds(s)
	if !slices.Equal(b, []growth.Bound{{Week: to(1, 2), Damage: to(45, 60), Old: at(5), Harvest: to(33, 36)}}) || e != api.OK {
		t.Errorf("Bounds: %v, %v", b, e)
	}
	for week, want := range map[int]growth.Range{0: at(5), 1: to(5, 65), 2: to(50, 55), 6: to(38, 41)} {
		if r, e := growth.Seen(s, 0, week); r != want || e != api.OK {
			t.Errorf("Seen in week %d: %v, %v", week, r, e)
		}
	}
	for limit, want := range map[int]int{32: growth.Above, 34: growth.Open, 36: growth.NotAbove} {
		if v, e := growth.Verdict(s, 0, limit); v != want || e != api.OK {
			t.Errorf("Verdict for %d: %d, %v", limit, v, e)
		}
	}
	if l, e := growth.Decides(s, 0, 34); !slices.Equal(l, ints(2, 3, 4, 5, 6)) || e != api.OK {
		t.Errorf("Decides: %v, %v", l, e)
	}
	more := chapter(visit(0, 6, to(20, 30)))
	if n, e := growth.First(more); n != 1 || e != api.OK {
		t.Errorf("First: %d, %v", n, e)
	}
	if l, e := growth.Leave(more); !slices.Equal(l, ints(0)) || e != api.OK {
		t.Errorf("Leave: %v, %v", l, e)
	}
}

func TestHarvest(t *testing.T) {
	steps := func(rule ...int) growth.Season {
		return one(rule, field(0, to(0, len(rule)-1), to(0, 100), at(7)))
	}
	crops := season([][]int{{0, 0}, {0, 50}, {0, 100}}, slices.Repeat([]growth.Field{field(1, at(0), to(1, 100), at(0))}, 3))
	crops.Fields[0].Crop, crops.Fields[2].Crop = 0, 2
	for _, x := range []struct {
		name  string
		s     growth.Season
		field int
		truth growth.Truth
		want  int
	}{
		{"the document's", steps(0, 20), 0, truth(0, 60, 7), 48},
		{"nothing recovers", steps(0, 0, 0, 0), 0, truth(0, 77, 7), 77},
		{"all recovers", steps(0, 0, 100, 0), 0, truth(1, 77, 7), 0},
		{"the part that recovers is rounded down", steps(0, 50), 0, truth(0, 3, 7), 2},
		{"again and again", steps(0, 50, 50, 50, 50), 0, truth(0, 10, 7), 1},
		{"1 does not recover", steps(0, 99, 99), 0, truth(0, 1, 7), 1},
		{"1 recovers", steps(0, 99, 100), 0, truth(0, 1, 7), 0},
		{"99 of 100", steps(0, 1), 0, truth(0, 99, 7), 99},
		{"100 of 100", steps(0, 1), 0, truth(0, 100, 7), 99},
		{"no damage", steps(0, 50), 0, truth(0, 0, 7), 0},
		{"nothing recovers in the week of the hail", steps(30, 40, 50), 0, truth(2, 60, 7), 60},
		{"nor in weeks before it", steps(30, 40, 50), 0, truth(1, 60, 7), 30},
		{"the rule of the week 0 is that of no later week", steps(100, 40, 50), 0, truth(0, 60, 7), 18},
		{"only one week", steps(50), 0, truth(0, 60, 7), 60},
		{"all weeks", steps(0, 10, 10, 10, 10, 10, 10, 10, 10, 10, 10, 10, 10), 0, truth(0, 100, 7), 31},
		{"the crop 0", crops, 0, truth(0, 50, 0), 50},
		{"the crop 1", crops, 1, truth(0, 50, 0), 25},
		{"the crop 2", crops, 2, truth(0, 50, 0), 0},
		{"old damage does not recover, and is not harvested", one(ints(0, 50), field(0, at(0), at(20), to(0, 100))), 0, truth(0, 20, 100), 10},
		{"a visit is wrong", chapter(), 0, truth(1, 40, 5), 24},
		{"all visits contradict each other", chapter(never(), visit(0, 0, at(100))), 0, truth(1, 60, 5), 36},
		{"a week before the range", chapter(), 0, truth(0, 60, 5), 0},
		{"a week after it", chapter(), 0, truth(3, 60, 5), 0},
		{"too little damage", chapter(), 0, truth(1, 39, 5), 0},
		{"too much damage", chapter(), 0, truth(1, 61, 5), 0},
		{"too little that is old", chapter(), 0, truth(1, 60, 4), 0},
		{"too much that is old", chapter(), 0, truth(1, 60, 6), 0},
		{"a week below 0", chapter(), 0, truth(-1, 60, 5), 0},
		{"no such field", chapter(), 1, truth(1, 60, 5), 0},
		{"a field below 0", chapter(), -1, truth(1, 60, 5), 0},
		{"no season", growth.Season{}, 0, truth(0, 0, 0), 0},
	} {
		if h := growth.Harvest(x.s, x.field, x.truth); h != x.want {
			t.Errorf("%s: Harvest of %v: %d, not %d", x.name, x.truth, h, x.want)
		}
	}
}

func TestProveTruth(t *testing.T) {
	two := season([][]int{{0, 50}}, []growth.Field{field(0, at(0), to(0, 9), to(0, 9)), field(0, at(0), to(0, 9), to(0, 9))}, visit(0, 1, at(5)), visit(1, 1, at(7)))
	capped := one(ints(0), field(0, at(0), to(50, 100), to(50, 100)), visit(0, 0, at(100)))
	for _, x := range []struct {
		name  string
		s     growth.Season
		field int
		truth growth.Truth
		want  bool
	}{
		{"the least that was seen", chapter(), 0, truth(2, 45, 5), true},
		{"less was seen", chapter(), 0, truth(2, 44, 5), false},
		{"the most that was seen", chapter(), 0, truth(2, 50, 5), true},
		{"more was seen", chapter(), 0, truth(2, 51, 5), false},
		{"the least, a week before", chapter(), 0, truth(1, 56, 5), true},
		{"less, a week before", chapter(), 0, truth(1, 55, 5), false},
		{"the most, a week before", chapter(), 0, truth(1, 60, 5), true},
		{"a week before the range", chapter(), 0, truth(0, 60, 5), false},
		{"a week after it", chapter(visit(0, 6, at(0))), 0, truth(3, 50, 5), false},
		{"too much damage", chapter(), 0, truth(1, 61, 5), false},
		{"too little that is old", chapter(), 0, truth(2, 46, 4), false},
		{"too much that is old", chapter(), 0, truth(2, 44, 6), false},
		{"no such field", chapter(), 1, truth(2, 45, 5), false},
		{"a field below 0", chapter(), -1, truth(2, 45, 5), false},
		{"the second visit is wrong", chapter(visit(0, 6, to(20, 30))), 0, truth(2, 45, 5), false},
		{"no visits", drop(chapter(), 0), 0, truth(2, 40, 5), true},
		{"before the hail what is old is seen", drop(chapter(visit(0, 0, at(5))), 0), 0, truth(1, 40, 5), true},
		{"the first field", two, 0, truth(0, 5, 2), true},
		{"the second field", two, 1, truth(0, 5, 4), true},
		{"the first field as the second one", two, 1, truth(0, 5, 2), false},
		{"the second field as the first one", two, 0, truth(0, 5, 4), false},
		{"another field has no truth", with(two, visit(1, 0, at(99))), 0, truth(0, 5, 2), true},
		{"at most 100 are seen", capped, 0, truth(0, 100, 100), true},
		{"just 100 are seen", capped, 0, truth(0, 50, 50), true},
		{"100, where less was seen", one(ints(0), field(0, at(0), to(50, 100), to(50, 100)), visit(0, 0, to(0, 99))), 0, truth(0, 50, 50), false},
		{"no season", growth.Season{}, 0, truth(0, 0, 0), false},
	} {
		if got := growth.ProveTruth(x.s, x.field, x.truth); got != x.want {
			t.Errorf("%s: ProveTruth of %v: %v", x.name, x.truth, got)
		}
	}
}

// halves has a field that was hit in the week 0, and has 5 or 6 at harvest, or in the week 1, and has 10 or 11.
func halves(visits ...growth.Visit) growth.Season {
	return one(ints(0, 50, 0), field(0, to(0, 1), to(10, 11), to(0, 2)), visits...)
}

func TestBoundsAndSeen(t *testing.T) {
	for _, x := range []struct {
		name string
		s    growth.Season
		want growth.Bound
		seen []growth.Range
	}{
		{"no visits", halves(), growth.Bound{Week: to(0, 1), Damage: to(10, 11), Old: to(0, 2), Harvest: to(5, 11)}, []growth.Range{to(0, 13), to(5, 13), to(5, 13)}},
		{"a visit after the hail", halves(visit(0, 0, to(5, 99))), growth.Bound{Week: at(0), Damage: to(10, 11), Old: to(0, 2), Harvest: to(5, 6)}, []growth.Range{to(10, 13), to(5, 8), to(5, 8)}},
		{"a visit before it", halves(visit(0, 0, to(1, 5))), growth.Bound{Week: at(1), Damage: to(10, 11), Old: to(1, 2), Harvest: to(10, 11)}, []growth.Range{to(1, 2), to(11, 13), to(11, 13)}},
		{"as much as can be seen", halves(visit(0, 0, at(13))), growth.Bound{Week: at(0), Damage: at(11), Old: at(2), Harvest: at(6)}, []growth.Range{at(13), at(8), at(8)}},
		{"more damage, or more that is old", halves(visit(0, 1, at(11))), growth.Bound{Week: at(1), Damage: to(10, 11), Old: to(0, 1), Harvest: to(10, 11)}, []growth.Range{to(0, 1), at(11), at(11)}},
		{"two visits", halves(visit(0, 1, at(11)), visit(0, 0, at(0))), growth.Bound{Week: at(1), Damage: at(11), Old: at(0), Harvest: at(11)}, []growth.Range{at(0), at(11), at(11)}},
		{"a visit at harvest", halves(visit(0, 2, to(8, 10))), growth.Bound{Week: to(0, 1), Damage: to(10, 11), Old: to(0, 2), Harvest: to(6, 10)}, []growth.Range{to(0, 13), to(8, 10), to(8, 10)}},
		{"the damage of the last week is harvested", one(ints(0, 50), field(0, at(1), to(8, 9), at(0))), growth.Bound{Week: at(1), Damage: to(8, 9), Old: at(0), Harvest: to(8, 9)}, []growth.Range{at(0), to(8, 9)}},
		{"at most 100 are seen", one(ints(0, 50), field(0, at(0), to(90, 92), at(60))), growth.Bound{Week: at(0), Damage: to(90, 92), Old: at(60), Harvest: to(45, 46)}, []growth.Range{at(100), at(100)}},
		{"all is old", one(ints(0, 0), field(0, at(1), at(0), to(98, 100)), visit(0, 0, to(99, 100))), growth.Bound{Week: at(1), Damage: at(0), Old: to(99, 100), Harvest: at(0)}, []growth.Range{to(99, 100), to(99, 100)}},
		{"nothing at all", smallest(), growth.Bound{}, []growth.Range{at(0)}},
	} {
		if b, e := growth.Bounds(x.s); !slices.Equal(b, []growth.Bound{x.want}) || e != api.OK {
			t.Errorf("%s: Bounds: %v, %v, not %v", x.name, b, e, x.want)
		}
		for week, want := range x.seen {
			if r, e := growth.Seen(x.s, 0, week); r != want || e != api.OK {
				t.Errorf("%s: Seen in week %d: %v, %v, not %v", x.name, week, r, e, want)
			}
		}
	}
}

func TestSeveralFields(t *testing.T) {
	s := season([][]int{{0, 0}, {0, 50}}, []growth.Field{field(1, at(0), to(10, 20), at(0)), field(0, at(0), to(10, 20), at(0)), field(1, to(0, 1), to(10, 20), at(1))}, visit(1, 1, to(0, 12)), visit(0, 1, to(8, 99)))
	want := []growth.Bound{
		{Week: at(0), Damage: to(15, 20), Old: at(0), Harvest: to(8, 10)},
		{Week: at(0), Damage: to(10, 12), Old: at(0), Harvest: to(10, 12)},
		{Week: to(0, 1), Damage: to(10, 20), Old: at(1), Harvest: to(5, 20)},
	}
	if b, e := growth.Bounds(s); !slices.Equal(b, want) || e != api.OK {
		t.Errorf("Bounds: %v, %v", b, e)
	}
	for field, want := range []growth.Range{to(8, 10), to(10, 12), to(6, 21)} {
		if r, e := growth.Seen(s, field, 1); r != want || e != api.OK {
			t.Errorf("Seen of %d: %v, %v", field, r, e)
		}
	}
	for field, want := range ints(growth.NotAbove, growth.Open, growth.Open) {
		if v, e := growth.Verdict(s, field, 11); v != want || e != api.OK {
			t.Errorf("Verdict of %d: %d, %v", field, v, e)
		}
	}
}

func TestShow(t *testing.T) {
	for _, x := range []struct {
		name      string
		s         growth.Season
		low, high growth.Truth
	}{
		{"all choices", halves(), truth(0, 10, 0), truth(1, 11, 0)},
		{"a visit before the hail", halves(visit(0, 0, to(0, 2))), truth(1, 10, 0), truth(1, 11, 0)},
		{"the chapter's", chapter(), truth(1, 56, 5), truth(1, 60, 5)},
		{"only one truth", halves(visit(0, 2, at(8))), truth(0, 11, 2), truth(0, 11, 2)},
		{"more damage, or more that is old", halves(visit(0, 2, at(11))), truth(1, 10, 1), truth(1, 11, 0)},
	} {
		low, e := growth.Show(x.s, 0, false)
		high, f := growth.Show(x.s, 0, true)
		if e != api.OK || growth.Harvest(x.s, 0, low) != harvestOf(x.s, 0, x.low) || !growth.ProveTruth(x.s, 0, low) {
			t.Errorf("%s: Show: %v, %v, not like %v", x.name, low, e, x.low)
		}
		if f != api.OK || growth.Harvest(x.s, 0, high) != harvestOf(x.s, 0, x.high) || !growth.ProveTruth(x.s, 0, high) {
			t.Errorf("%s: Show: %v, %v, not like %v", x.name, high, f, x.high)
		}
	}
}

func TestVerdictAndDecides(t *testing.T) {
	mixed := one(ints(0, 0), field(0, at(0), to(10, 20), to(0, 20)))
	early := one(ints(0, 50), field(0, to(0, 1), at(50), to(0, 30)))
	capped := one(ints(0, 50), field(0, at(0), to(90, 95), at(10)))
	for _, x := range []struct {
		name    string
		s       growth.Season
		limit   int
		verdict int
		weeks   []int
	}{
		{"below the minimum", chapter(), 32, growth.Above, ints(0, 1, 2, 3, 4, 5, 6)},
		{"the minimum", chapter(), 33, growth.Open, ints(2, 3, 4, 5, 6)},
		{"the maximum less 1", chapter(), 35, growth.Open, ints(2, 3, 4, 5, 6)},
		{"the maximum", chapter(), 36, growth.NotAbove, ints(0, 1, 2, 3, 4, 5, 6)},
		{"the least limit", chapter(), 0, growth.Above, ints(0, 1, 2, 3, 4, 5, 6)},
		{"the greatest limit", chapter(), 100, growth.NotAbove, ints(0, 1, 2, 3, 4, 5, 6)},
		{"no week decides", mixed, 15, growth.Open, nil},
		{"only the last number decides", mixed, 19, growth.Open, nil},
		{"the first week decides, and the last one does not", early, 30, growth.Open, ints(0)},
		{"100 are seen, and decide nothing", capped, 46, growth.Open, ints(1)},
		{"a smaller limit", capped, 45, growth.Open, ints(1)},
		{"before the hail nothing is seen", one(zeros(3), field(0, at(2), to(0, 1), at(0))), 0, growth.Open, ints(2, 3)},
		{"all recovers", one(ints(0, 0, 100), field(0, to(1, 2), to(8, 9), at(0))), 8, growth.Open, ints(2)},
		{"the week of the hail decides", one(ints(0, 0, 100), field(0, to(1, 2), to(8, 9), at(0))), 7, growth.Open, ints(1, 2)},
		{"no damage", smallest(), 0, growth.NotAbove, ints(0)},
		{"a visit decided", one(zeros(1), field(0, at(0), to(10, 20), to(0, 1)), visit(0, 1, at(21))), 19, growth.Above, ints(0, 1)},
		{"a visit decided nothing", one(zeros(1), field(0, at(0), to(10, 20), to(0, 1)), visit(0, 1, at(20))), 19, growth.Open, nil},
	} {
		if v, e := growth.Verdict(x.s, 0, x.limit); v != x.verdict || e != api.OK {
			t.Errorf("%s: Verdict for %d: %d, %v, not %d", x.name, x.limit, v, e, x.verdict)
		}
		if l, e := growth.Decides(x.s, 0, x.limit); !slices.Equal(l, x.weeks) || e != api.OK {
			t.Errorf("%s: Decides for %d: %v, %v, not %v", x.name, x.limit, l, e, x.weeks)
		}
	}
}

func TestFirstAndLeave(t *testing.T) {
	plain := func(visits ...growth.Visit) growth.Season {
		return one(zeros(2), field(0, at(0), to(10, 20), at(0)), visits...)
	}
	two := func(visits ...growth.Visit) growth.Season {
		return season([][]int{zeros(2)}, slices.Repeat([]growth.Field{field(0, at(0), to(10, 20), at(0))}, 2), visits...)
	}
	a, b, c := visit(0, 0, at(15)), visit(0, 1, at(16)), visit(0, 2, to(0, 15))
	other, against := visit(1, 0, at(10)), visit(1, 2, at(11))
	for _, x := range []struct {
		name  string
		s     growth.Season
		first int // -1 if there is none
		want  []int
	}{
		{"no visits", plain(), -1, nil},
		{"one that is right", plain(a), -1, nil},
		{"one that is wrong", plain(never()), 0, ints(0)},
		{"two that are right", plain(a, c), -1, nil},
		{"the same twice", plain(a, a), -1, nil},
		{"a pair", plain(a, b), 1, ints(0)},
		{"two against one", plain(a, b, c), 1, ints(1)},
		{"one against two", plain(b, a, c), 1, ints(0)},
		{"the last one against them", plain(a, c, b), 2, ints(2)},
		{"one of another field", two(a, other), -1, nil},
		{"a pair of one field", two(a, other, b), 2, ints(0)},
		{"a pair of each field", two(a, other, b, against), 2, ints(0, 1)},
		{"pairs one after the other", two(a, b, other, against), 1, ints(0, 2)},
		{"two against one, in the other field", two(other, against, visit(1, 1, to(0, 10)), a), 1, ints(1)},
		{"the same numbers, in fields that differ", two(a, visit(1, 1, at(16))), -1, nil},
		{"all of six", plain(slices.Repeat([]growth.Visit{never()}, 6)...), 0, ints(0, 1, 2, 3, 4, 5)},
		{"the last of six", plain(append(slices.Repeat([]growth.Visit{a}, 5), b)...), 5, ints(5)},
		{"the first of six", plain(append([]growth.Visit{b}, slices.Repeat([]growth.Visit{a}, 5)...)...), 1, ints(0)},
		{"half of six", plain(a, b, a, b, a, b), 1, ints(0, 2, 4)},
		{"the wrong half of six", plain(b, a, b, a, b, never()), 1, ints(1, 3, 5)},
		{"no two together", plain(visit(0, 0, at(10)), visit(0, 0, at(11)), visit(0, 0, at(12))), 1, ints(0, 1)},
		{"three, of which any two are right", halves(visit(0, 0, to(3, 99)), visit(0, 2, to(0, 8)), visit(0, 1, to(8, 12))), -1, nil},
		{"before the hail, and after it", halves(visit(0, 0, at(0)), visit(0, 1, at(12))), 1, ints(0)},
	} {
		n, e := growth.First(x.s)
		if x.first >= 0 && (n != x.first || e != api.OK) || x.first < 0 && (n != 0 || e != api.ErrNone) {
			t.Errorf("%s: First: %d, %v, not %d", x.name, n, e, x.first)
		}
		if l, e := growth.Leave(x.s); !slices.Equal(l, x.want) || e != api.OK {
			t.Errorf("%s: Leave: %v, %v, not %v", x.name, l, e, x.want)
		}
	}
}

// TestAtTheLimits has as many weeks, crops, fields, visits and choices as there can be.
func TestAtTheLimits(t *testing.T) {
	rule := ints(0, 7, 7, 7, 7, 7, 7, 7, 7, 7, 7, 7, 7)
	f := field(2, to(3, 12), to(71, 100), to(0, 9))
	s := season([][]int{rule, zeros(12), rule}, slices.Repeat([]growth.Field{f}, 3), slices.Repeat([]growth.Visit{visit(2, 12, to(0, 100))}, 6)...)
	low := harvestOf(s, 2, truth(3, 71, 0))
	want := growth.Bound{Week: f.Week, Damage: f.Damage, Old: f.Old, Harvest: to(low, 100)}
	if b, e := growth.Bounds(s); !slices.Equal(b, []growth.Bound{want, want, want}) || e != api.OK {
		t.Errorf("Bounds: %v, %v", b, e)
	}
	if r, e := growth.Seen(s, 2, 12); r != to(low, 100) || e != api.OK {
		t.Errorf("Seen: %v, %v", r, e)
	}
	if l, e := growth.Decides(s, 2, 100); len(l) != 13 || e != api.OK {
		t.Errorf("Decides: %v, %v", l, e)
	}
	for i := range s.Visits {
		s.Visits[i].Seen = to(0, low-1)
	}
	if l, e := growth.Leave(s); !slices.Equal(l, ints(0, 1, 2, 3, 4, 5)) || e != api.OK {
		t.Errorf("Leave: %v, %v", l, e)
	}
	if n, e := growth.First(s); n != 0 || e != api.OK {
		t.Errorf("First: %v, %v", n, e)
	}
}

// roomy is the season with room behind its lists, which shows whether something was appended in it.
func roomy(s growth.Season) growth.Season {
	s.Rules = append(make([][]int, 0, 16), s.Rules...)
	for i, rule := range s.Rules {
		s.Rules[i] = append(make([]int, 0, 16), rule...)
	}
	s.Fields = append(make([]growth.Field, 0, 16), s.Fields...)
	s.Visits = append(make([]growth.Visit, 0, 16), s.Visits...)
	return s
}

func sameRoomy(s, before growth.Season) bool {
	for _, rule := range s.Rules {
		if slices.Max(append(ints(0), rule[len(rule):16]...)) != 0 {
			return false
		}
	}
	return slices.EqualFunc(s.Rules, before.Rules, slices.Equal[[]int]) &&
		slices.Equal(s.Fields, before.Fields) && slices.Equal(s.Visits, before.Visits) &&
		!slices.ContainsFunc(s.Rules[len(s.Rules):16], func(rule []int) bool { return rule != nil }) &&
		!slices.ContainsFunc(s.Fields[len(s.Fields):16], func(f growth.Field) bool { return f != growth.Field{} }) &&
		!slices.ContainsFunc(s.Visits[len(s.Visits):16], func(v growth.Visit) bool { return v != growth.Visit{} })
}

// TestMemory checks R4: arguments stay as they were, results can be written to, and equal calls return equal results.
func TestMemory(t *testing.T) {
	for _, base := range append(seasons(1, 40), chapter(), chapter(never(), never())) {
		s := roomy(base)
		first := everything(s)
		for _, call := range []func() []int{
			func() []int { l, _ := growth.Leave(s); return l },
			func() []int { l, _ := growth.Decides(s, 0, 20); return l },
		} {
			l := call()
			kept := slices.Clone(l)
			for i := range l {
				l[i] = 77
			}
			_ = append(l, 77)
			if !slices.Equal(call(), kept) {
				t.Fatalf("results share memory: %v", base)
			}
		}
		b, _ := growth.Bounds(s)
		kept := slices.Clone(b)
		for i := range b {
			b[i].Week.Hi = 77
		}
		if b, _ := growth.Bounds(s); !slices.Equal(b, kept) {
			t.Fatalf("results share memory: %v", base)
		}
		if !sameRoomy(s, base) {
			t.Fatalf("written to: %v", base)
		}
		if everything(s) != first {
			t.Fatalf("not the same again: %v", s)
		}
	}
}

// TestEmptyLists checks R3: nil is the same as a list without elements.
func TestEmptyLists(t *testing.T) {
	for _, s := range []growth.Season{halves(), smallest(), {}, {Rules: make([][]int, 1), Fields: make([]growth.Field, 1)}} {
		empty := clone(s)
		empty.Visits = []growth.Visit{}
		if len(s.Rules) == 0 {
			empty.Rules, empty.Fields = [][]int{}, []growth.Field{}
		} else if len(s.Rules[0]) == 0 {
			empty.Rules[0] = []int{}
		}
		if everything(s) != everything(empty) {
			t.Errorf("nil is not the same as empty: %v", s)
		}
	}
}
