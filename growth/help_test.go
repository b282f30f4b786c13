package growth_test

import (
	"fmt"
	"math/rand/v2"
	"slices"
	"testing"

	"hailstone/api"
	"hailstone/growth"
)

func ints(l ...int) []int { return l }

func to(low, high int) growth.Range { return growth.Range{Lo: low, Hi: high} }

func at(n int) growth.Range { return to(n, n) }

func field(crop int, week, damage, old growth.Range) growth.Field {
	return growth.Field{Crop: crop, Week: week, Damage: damage, Old: old}
}

func visit(field, week int, seen growth.Range) growth.Visit {
	return growth.Visit{Field: field, Week: week, Seen: seen}
}

func truth(week, damage, old int) growth.Truth {
	return growth.Truth{Week: week, Damage: damage, Old: old}
}

// season has the weeks for which the first rule has numbers.
func season(rules [][]int, fields []growth.Field, visits ...growth.Visit) growth.Season {
	return growth.Season{Last: len(rules[0]) - 1, Rules: rules, Fields: fields, Visits: visits}
}

// one is a season with one crop and one field.
func one(rule []int, f growth.Field, visits ...growth.Visit) growth.Season {
	return season([][]int{rule}, []growth.Field{f}, visits...)
}

// chapter is the season of the chapter's examples, with further visits.
func chapter(more ...growth.Visit) growth.Season {
	return one(ints(0, 10, 20, 20, 10, 0, 0), field(0, to(1, 2), to(40, 60), at(5)), append([]growth.Visit{visit(0, 2, to(50, 55))}, more...)...)
}

// never is a visit that is wrong in each truth of a field in which something is always seen in the week 0.
func never() growth.Visit { return visit(0, 0, at(0)) }

func with(s growth.Season, visits ...growth.Visit) growth.Season {
	s.Rules = slices.Clone(s.Rules)
	for i, rule := range s.Rules {
		s.Rules[i] = slices.Clone(rule)
	}
	s.Fields = slices.Clone(s.Fields)
	s.Visits = append(slices.Clone(s.Visits), visits...)
	return s
}

func clone(s growth.Season) growth.Season { return with(s) }

// drop is the season without some visits.
func drop(s growth.Season, skipped ...int) growth.Season {
	var rest []growth.Visit
	for i, v := range s.Visits {
		if !slices.Contains(skipped, i) {
			rest = append(rest, v)
		}
	}
	s.Visits = rest
	return s
}

// damageAt is the damage at the end of the week, by that of the week before. What recovers is found by trying.
func damageAt(s growth.Season, field int, x growth.Truth, week int) int {
	switch {
	case week < x.Week:
		return 0
	case week == x.Week:
		return x.Damage
	}
	before := damageAt(s, field, x, week-1)
	recovers := 0
	for (recovers+1)*100 <= before*s.Rules[s.Fields[field].Crop][week] {
		recovers++
	}
	return before - recovers
}

func harvestOf(s growth.Season, field int, x growth.Truth) int { return damageAt(s, field, x, s.Last) }

func seenAt(s growth.Season, field int, x growth.Truth, week int) int {
	n := damageAt(s, field, x, week)
	for range x.Old {
		if n < 100 {
			n++
		}
	}
	return n
}

// choices are all truths of the field, whether the visits are right in them or not. They are counted like the digits of a number.
func choices(f growth.Field) []growth.Truth {
	size := func(r growth.Range) int { return r.Hi + 1 - r.Lo }
	weeks, numbers, olds := size(f.Week), size(f.Damage), size(f.Old)
	var all []growth.Truth
	for code := range weeks * numbers * olds {
		all = append(all, truth(f.Week.Lo+code%weeks, f.Damage.Lo+code/weeks%numbers, f.Old.Lo+code/weeks/numbers))
	}
	return all
}

// truths are all truths of the field in which all visits to it but the skipped ones are right.
func truths(s growth.Season, field int, skipped ...int) []growth.Truth {
	return slices.DeleteFunc(choices(s.Fields[field]), func(x growth.Truth) bool {
		for i, v := range s.Visits {
			if v.Field == field && !slices.Contains(skipped, i) && !has(v.Seen, seenAt(s, field, x, v.Week)) {
				return true
			}
		}
		return false
	})
}

// isTrue reports whether the season without the skipped visits has a truth.
func isTrue(s growth.Season, skipped ...int) bool {
	for field := range s.Fields {
		if len(truths(s, field, skipped...)) == 0 {
			return false
		}
	}
	return true
}

// spanOf is the range from the minimum to the maximum of a number of some truths.
func spanOf(all []growth.Truth, number func(growth.Truth) int) growth.Range {
	r := at(number(all[0]))
	for _, x := range all {
		r = to(min(r.Lo, number(x)), max(r.Hi, number(x)))
	}
	return r
}

func boundOf(s growth.Season, field int) growth.Bound {
	all := truths(s, field)
	return growth.Bound{
		Week:    spanOf(all, func(x growth.Truth) int { return x.Week }),
		Damage:  spanOf(all, func(x growth.Truth) int { return x.Damage }),
		Old:     spanOf(all, func(x growth.Truth) int { return x.Old }),
		Harvest: spanOf(all, func(x growth.Truth) int { return harvestOf(s, field, x) }),
	}
}

func verdictOf(s growth.Season, field, limit int) int {
	all := truths(s, field)
	above := 0
	for _, x := range all {
		if harvestOf(s, field, x) > limit {
			above++
		}
	}
	switch above {
	case len(all):
		return growth.Above
	case 0:
		return growth.NotAbove
	}
	return growth.Open
}

// decidesOf are the weeks that decide: for each number that can be seen, all truths with it are asked.
func decidesOf(s growth.Season, field, limit int) []int {
	var weeks []int
	all := truths(s, field)
	for week := range s.Last + 1 {
		mixed := false
		for number := range 101 {
			above, not := 0, 0
			for _, x := range all {
				if seenAt(s, field, x, week) != number {
					continue
				}
				if harvestOf(s, field, x) > limit {
					above++
				} else {
					not++
				}
			}
			mixed = mixed || above > 0 && not > 0
		}
		if !mixed {
			weeks = append(weeks, week)
		}
	}
	return weeks
}

// subsets are all increasing lists of numbers below n, the shorter ones first, those of one length in lexicographic order.
func subsets(n int) [][]int {
	var all [][]int
	for mask := range 1 << n {
		var l []int
		for i := range n {
			if mask>>i&1 == 1 {
				l = append(l, i)
			}
		}
		all = append(all, l)
	}
	slices.SortFunc(all, func(a, b []int) int {
		if len(a) != len(b) {
			return len(a) - len(b)
		}
		return slices.Compare(a, b)
	})
	return all
}

// hasTruth asks the package whether the season has a truth.
func hasTruth(t *testing.T, s growth.Season) bool {
	t.Helper()
	_, e := growth.Bounds(s)
	if e != api.OK && e != api.ErrFalse {
		t.Errorf("Bounds of %v: %v", s, e)
	}
	return e == api.OK
}

// seasons are valid seasons with at most 150 choices for each field, made by a fixed rule: most visits are right in one of the truths.
func seasons(seed uint64, number int) []growth.Season {
	r := rand.New(rand.NewPCG(seed, 4))
	var list []growth.Season
	for len(list) < number {
		s := someSeason(r)
		if !slices.ContainsFunc(s.Fields, func(f growth.Field) bool { return len(choices(f)) > 150 }) {
			list = append(list, s)
		}
	}
	return list
}

func someRange(r *rand.Rand, last, wide int) growth.Range {
	low := r.IntN(last + 1)
	return to(low, min(last, low+r.IntN(wide+1)))
}

func someSeason(r *rand.Rand) growth.Season {
	s := growth.Season{Last: r.IntN(7)}
	if r.IntN(6) == 0 {
		s.Last = r.IntN(13)
	}
	for range 1 + r.IntN(3) {
		var rule []int
		for range s.Last + 1 {
			rule = append(rule, ints(0, 0, 5, 10, 20, 30, 50, 100)[r.IntN(8)])
		}
		s.Rules = append(s.Rules, rule)
	}
	var right []growth.Truth
	for range 1 + r.IntN(3) {
		f := field(r.IntN(len(s.Rules)), someRange(r, s.Last, 3), someRange(r, 100, 12), someRange(r, 20, 4))
		if r.IntN(4) == 0 {
			f.Old = someRange(r, 100, 4)
		}
		all := choices(f)
		s.Fields = append(s.Fields, f)
		right = append(right, all[r.IntN(len(all))])
	}
	for range r.IntN(6) {
		s.Visits = append(s.Visits, someVisit(r, s, right))
	}
	return s
}

// someVisit is a visit to some field, mostly one that is right in the truths of the fields.
func someVisit(r *rand.Rand, s growth.Season, right []growth.Truth) growth.Visit {
	v := growth.Visit{Field: r.IntN(len(s.Fields)), Week: r.IntN(s.Last + 1)}
	n := seenAt(s, v.Field, right[v.Field], v.Week)
	if r.IntN(4) == 0 {
		n = min(100, n+r.IntN(12))
	}
	width := ints(0, 1, 2, 3, 5, 8, 100)
	v.Seen = to(max(0, n-width[r.IntN(len(width))]), min(100, n+width[r.IntN(len(width))]))
	return v
}

// inside reports whether the first range is a part of the second one.
func inside(a, b growth.Range) bool { return a.Lo >= b.Lo && a.Hi <= b.Hi }

func has(r growth.Range, n int) bool { return n >= r.Lo && n <= r.Hi }

// ofField is what all calls return of a field, as a text.
func ofField(s growth.Season, field int) string {
	text := ""
	for week := range s.Last + 1 {
		r, e := growth.Seen(s, field, week)
		text += fmt.Sprint(r, e)
	}
	for _, high := range []bool{false, true} {
		x, e := growth.Show(s, field, high)
		text += fmt.Sprint(x, e, growth.Harvest(s, field, x), growth.ProveTruth(s, field, x))
	}
	for limit := range 101 {
		v, e := growth.Verdict(s, field, limit)
		l, f := growth.Decides(s, field, limit)
		text += fmt.Sprint(v, e, l, f)
	}
	return text
}

// everything is what all calls return of a season, as a text.
func everything(s growth.Season) string {
	b, e := growth.Bounds(s)
	n, f := growth.First(s)
	l, g := growth.Leave(s)
	text := fmt.Sprint(growth.CheckSeason(s), b, e, n, f, l, g)
	for field := range s.Fields {
		text += ofField(s, field)
	}
	return text
}
