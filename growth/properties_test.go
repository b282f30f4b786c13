package growth_test

import (
	"math/rand/v2"
	"slices"
	"testing"

	"hailstone/api"
	"hailstone/growth"
)

// limits are some limits, with those around the bounds of the field's harvest.
func limits(s growth.Season, field int) []int {
	list := ints(0, 10, 50, 99, 100)
	if b, e := growth.Bounds(s); e == api.OK {
		h := b[field].Harvest
		list = append(list, h.Lo, h.Hi, max(0, h.Lo-1), max(0, h.Hi-1), (h.Lo+h.Hi)/2)
	}
	return list
}

// TestSeasons checks that there are enough seasons of each sort for the other tests.
func TestSeasons(t *testing.T) {
	sorts := map[string]int{}
	for _, s := range seasons(2, 400) {
		if !hasTruth(t, s) {
			sorts["no truth"]++
			continue
		}
		for field := range s.Fields {
			v, _ := growth.Verdict(s, field, limits(s, field)[9])
			l, _ := growth.Decides(s, field, limits(s, field)[9])
			known := len(truths(s, field)) < len(choices(s.Fields[field]))
			for sort, is := range map[string]bool{
				"something is known":    known,
				"several fields":        field > 0,
				"other crops":           s.Fields[field].Crop > 0,
				"much is seen":          s.Fields[field].Damage.Hi+s.Fields[field].Old.Hi > 100,
				"open":                  v == growth.Open,
				"some weeks decide":     v == growth.Open && len(l) > 0,
				"not all of the weeks":  v == growth.Open && len(l) > 0 && len(l) <= s.Last,
				"no week decides":       v == growth.Open && len(l) == 0,
				"not the last week":     v == growth.Open && len(l) > 0 && !slices.Contains(l, s.Last),
				"known, and still open": known && v == growth.Open,
			} {
				if is {
					sorts[sort]++
				}
			}
		}
	}
	for sort, least := range map[string]int{"no truth": 50, "something is known": 100, "several fields": 100, "other crops": 100, "much is seen": 30, "open": 100, "some weeks decide": 50, "not all of the weeks": 30, "no week decides": 30, "not the last week": 5, "known, and still open": 20} {
		if sorts[sort] < least {
			t.Errorf("%s: %d", sort, sorts[sort])
		}
	}
}

// TestTruthsOfModel checks P4.1 and P4.4 for all truths, and for numbers just beyond the ranges.
func TestTruthsOfModel(t *testing.T) {
	for _, s := range seasons(3, 200) {
		for field, f := range s.Fields {
			right := map[growth.Truth]bool{}
			for _, x := range truths(s, field) {
				right[x] = true
			}
			for _, x := range choices(f) {
				if h := growth.Harvest(s, field, x); h != harvestOf(s, field, x) {
					t.Fatalf("Harvest of %v, %d, %v: %d", s, field, x, h)
				}
				if is := growth.ProveTruth(s, field, x); is != right[x] {
					t.Fatalf("ProveTruth of %v, %d, %v: %v", s, field, x, is)
				}
			}
			for _, x := range []growth.Truth{
				truth(f.Week.Lo-1, f.Damage.Lo, f.Old.Lo), truth(f.Week.Hi+1, f.Damage.Lo, f.Old.Lo),
				truth(f.Week.Lo, f.Damage.Lo-1, f.Old.Lo), truth(f.Week.Lo, f.Damage.Hi+1, f.Old.Lo),
				truth(f.Week.Lo, f.Damage.Lo, f.Old.Lo-1), truth(f.Week.Lo, f.Damage.Lo, f.Old.Hi+1),
			} {
				if h := growth.Harvest(s, field, x); h != 0 || growth.ProveTruth(s, field, x) {
					t.Fatalf("Harvest, ProveTruth of %v, %d, %v: %d", s, field, x, h)
				}
			}
		}
	}
}

// TestBoundsOfModel checks P4.2 and P4.3, and the row ErrFalse.
func TestBoundsOfModel(t *testing.T) {
	for _, s := range seasons(4, 400) {
		b, e := growth.Bounds(s)
		if !isTrue(s) {
			if len(b) != 0 || e != api.ErrFalse {
				t.Fatalf("Bounds of %v: %v, %v", s, b, e)
			}
			for field := range s.Fields {
				wantUntrue(t, s, field)
			}
			continue
		}
		if len(b) != len(s.Fields) || e != api.OK {
			t.Fatalf("Bounds of %v: %v, %v", s, b, e)
		}
		for field := range s.Fields {
			if want := boundOf(s, field); b[field] != want {
				t.Fatalf("Bounds of %v: %v, not %v", s, b[field], want)
			}
			for week := range s.Last + 1 {
				want := spanOf(truths(s, field), func(x growth.Truth) int { return seenAt(s, field, x, week) })
				if r, e := growth.Seen(s, field, week); r != want || e != api.OK {
					t.Fatalf("Seen of %v, %d in week %d: %v, %v, not %v", s, field, week, r, e, want)
				}
			}
		}
	}
}

// wantUntrue checks that nothing is returned of a season without a truth.
func wantUntrue(t *testing.T, s growth.Season, field int) {
	t.Helper()
	if r, e := growth.Seen(s, field, 0); r != at(0) || e != api.ErrFalse {
		t.Fatalf("Seen of %v, %d: %v, %v", s, field, r, e)
	}
	if x, e := growth.Show(s, field, true); x != truth(0, 0, 0) || e != api.ErrFalse {
		t.Fatalf("Show of %v, %d: %v, %v", s, field, x, e)
	}
	if v, e := growth.Verdict(s, field, 0); v != 0 || e != api.ErrFalse {
		t.Fatalf("Verdict of %v, %d: %v, %v", s, field, v, e)
	}
	if l, e := growth.Decides(s, field, 0); len(l) != 0 || e != api.ErrFalse {
		t.Fatalf("Decides of %v, %d: %v, %v", s, field, l, e)
	}
}

// TestShowOfModel checks P4.4: what is shown is a truth, with the greatest, or the smallest, harvest.
func TestShowOfModel(t *testing.T) {
	for _, s := range seasons(5, 300) {
		if !isTrue(s) {
			continue
		}
		for field := range s.Fields {
			want := boundOf(s, field).Harvest
			low, e := growth.Show(s, field, false)
			high, f := growth.Show(s, field, true)
			if e != api.OK || f != api.OK || !growth.ProveTruth(s, field, low) || !growth.ProveTruth(s, field, high) {
				t.Fatalf("Show of %v, %d: %v, %v, %v, %v", s, field, low, e, high, f)
			}
			if to(harvestOf(s, field, low), harvestOf(s, field, high)) != want {
				t.Fatalf("Show of %v, %d: %v, %v, not with harvests of %v", s, field, low, high, want)
			}
		}
	}
}

// TestLimitsOfModel checks P4.5.
func TestLimitsOfModel(t *testing.T) {
	for _, s := range seasons(6, 60) {
		if !isTrue(s) {
			continue
		}
		for field := range s.Fields {
			for _, limit := range limits(s, field) {
				if v, e := growth.Verdict(s, field, limit); v != verdictOf(s, field, limit) || e != api.OK {
					t.Fatalf("Verdict of %v, %d, %d: %d, %v", s, field, limit, v, e)
				}
				if l, e := growth.Decides(s, field, limit); !slices.Equal(l, decidesOf(s, field, limit)) || e != api.OK {
					t.Fatalf("Decides of %v, %d, %d: %v, %v", s, field, limit, l, e)
				}
			}
		}
	}
}

// TestLeaveOfModel checks P4.6: of all lists, the shorter ones first, Leave is the first one that can be left out; First is the first visit with which there is no truth.
func TestLeaveOfModel(t *testing.T) {
	sizes, firsts := map[int]int{}, map[int]int{}
	for _, s := range seasons(7, 400) {
		lists := subsets(len(s.Visits))
		want := lists[slices.IndexFunc(lists, func(l []int) bool { return isTrue(s, l...) })]
		l, e := growth.Leave(s)
		if !slices.Equal(l, want) || e != api.OK || (len(l) == 0) != hasTruth(t, s) {
			t.Fatalf("Leave of %v: %v, %v, not %v", s, l, e, want)
		}
		sizes[len(l)]++
		first, none := 0, api.ErrNone
		for n := range s.Visits {
			upTo := s
			upTo.Visits = s.Visits[:n+1]
			if !isTrue(upTo) {
				first, none = n, api.OK
				break
			}
		}
		if n, e := growth.First(s); n != first || e != none {
			t.Fatalf("First of %v: %v, %v, not %v, %v", s, n, e, first, none)
		}
		if none == api.OK {
			firsts[first]++
		}
	}
	if sizes[0] < 100 || sizes[1] < 50 || sizes[2] < 5 || firsts[0] < 10 || firsts[1] < 10 || firsts[2] < 10 {
		t.Errorf("sizes of what is left out: %v, first visits: %v", sizes, firsts)
	}
}

// TestInEachTruth checks P4.7 and P4.9 by the calls alone; what is seen before the week Last is left to TestBoundsOfModel.
func TestInEachTruth(t *testing.T) {
	for _, s := range seasons(8, 100) {
		b, e := growth.Bounds(s)
		if e != api.OK {
			continue
		}
		for field, f := range s.Fields {
			seen, _ := growth.Seen(s, field, s.Last)
			for _, x := range choices(f) {
				if !growth.ProveTruth(s, field, x) {
					continue
				}
				h := growth.Harvest(s, field, x)
				if !has(b[field].Week, x.Week) || !has(b[field].Damage, x.Damage) || !has(b[field].Old, x.Old) || !has(b[field].Harvest, h) {
					t.Fatalf("Bounds of %v: %v without %v, %d", s, b[field], x, h)
				}
				if !has(seen, min(100, h+x.Old)) {
					t.Fatalf("Seen of %v, %d: %v without %d", s, field, seen, h+x.Old)
				}
				for _, limit := range ints(max(0, h-1), h, min(100, h+1)) {
					v, e := growth.Verdict(s, field, limit)
					if e != api.OK || v == growth.Above && h <= limit || v == growth.NotAbove && h > limit {
						t.Fatalf("Verdict of %v, %d, %d: %d, %v, and %v has %d", s, field, limit, v, e, x, h)
					}
				}
			}
		}
	}
}

// TestRightVisits checks P4.8: visits that are all right in one truth of each field.
func TestRightVisits(t *testing.T) {
	r := rand.New(rand.NewPCG(9, 9))
	for _, s := range seasons(9, 300) {
		s.Visits = nil
		var right []growth.Truth
		for _, f := range s.Fields {
			all := choices(f)
			right = append(right, all[r.IntN(len(all))])
		}
		for range 6 {
			field, week := r.IntN(len(s.Fields)), r.IntN(s.Last+1)
			n := seenAt(s, field, right[field], week)
			s.Visits = append(s.Visits, visit(field, week, to(max(0, n-r.IntN(3)), min(100, n+r.IntN(3)))))
		}
		if l, e := growth.Leave(s); len(l) != 0 || e != api.OK {
			t.Fatalf("Leave of %v: %v, %v", s, l, e)
		}
		if n, e := growth.First(s); n != 0 || e != api.ErrNone {
			t.Fatalf("First of %v: %v, %v", s, n, e)
		}
		for field, x := range right {
			if !growth.ProveTruth(s, field, x) {
				t.Fatalf("ProveTruth of %v, %d, %v", s, field, x)
			}
		}
	}
}

// TestTakenOffOnce checks P4.9: what is seen in the week Last is the harvest plus Old, but at most 100.
func TestTakenOffOnce(t *testing.T) {
	below := 0
	for _, s := range seasons(10, 200) {
		for field, f := range s.Fields {
			x := choices(f)[len(choices(f))/2]
			only := s
			only.Visits = nil
			only.Fields = slices.Clone(s.Fields)
			only.Fields[field].Week, only.Fields[field].Damage, only.Fields[field].Old = at(x.Week), at(x.Damage), at(x.Old)
			r, e := growth.Seen(only, field, s.Last)
			h := growth.Harvest(only, field, x)
			if r != at(min(100, h+x.Old)) || e != api.OK {
				t.Fatalf("Seen of %v, %d: %v, %v, not %d and %d", only, field, r, e, h, x.Old)
			}
			if r.Lo < 100 {
				below++
			}
		}
	}
	if below < 100 {
		t.Errorf("%d fields with less than 100", below)
	}
}

// TestMoreDamage checks P4.10, for each damage, and for each greater rule of one week.
func TestMoreDamage(t *testing.T) {
	smaller := 0
	for _, s := range seasons(11, 60) {
		s.Visits = nil
		s.Fields = []growth.Field{field(0, s.Fields[0].Week, to(0, 100), at(3))}
		week := s.Fields[0].Week.Lo
		s.Fields[0].Week = at(week)
		flat := clone(s)
		flat.Rules[0] = zeros(s.Last)
		before := 0
		for damage := range 101 {
			x := truth(week, damage, 3)
			h := growth.Harvest(s, 0, x)
			if h < before || h > damage || growth.Harvest(flat, 0, x) != damage {
				t.Fatalf("Harvest of %v, %v: %d, after %d", s, x, h, before)
			}
			before = h
			for w := range s.Last + 1 {
				more := clone(s)
				more.Rules[0][w] = min(100, more.Rules[0][w]+1+damage%40)
				k := growth.Harvest(more, 0, x)
				if k > h || w <= week && k != h {
					t.Fatalf("Harvest of %v, %v: %d, not more than %d", more, x, k, h)
				}
				if k < h {
					smaller++
				}
			}
		}
	}
	if smaller < 1000 {
		t.Errorf("%d smaller harvests", smaller)
	}
}

// compare checks that no bounds of the first season are wider than those of the second one. Both have a truth.
func compare(t *testing.T, less, more growth.Season) {
	t.Helper()
	b, e := growth.Bounds(less)
	c, f := growth.Bounds(more)
	if e != api.OK || f != api.OK || len(b) != len(c) {
		t.Fatalf("Bounds: %v, %v of %v, %v, %v of %v", b, e, less, c, f, more)
	}
	for i := range b {
		if !inside(b[i].Week, c[i].Week) || !inside(b[i].Damage, c[i].Damage) || !inside(b[i].Old, c[i].Old) || !inside(b[i].Harvest, c[i].Harvest) {
			t.Fatalf("Bounds: %v of %v, %v of %v", b, less, c, more)
		}
		for week := range more.Last + 1 {
			r, e := growth.Seen(less, i, week)
			q, f := growth.Seen(more, i, week)
			if e != api.OK || f != api.OK || !inside(r, q) {
				t.Fatalf("Seen of %d in week %d: %v, %v of %v, %v, %v of %v", i, week, r, e, less, q, f, more)
			}
		}
	}
}

// compareLimits checks that a verdict of the first season that is not Open is that of the second one too, and that weeks that decide in the first one do so in the second one.
func compareLimits(t *testing.T, before, after growth.Season) {
	t.Helper()
	for field := range before.Fields {
		for _, limit := range limits(before, field) {
			v, e := growth.Verdict(before, field, limit)
			u, f := growth.Verdict(after, field, limit)
			if e != api.OK || f != api.OK || v != growth.Open && u != v {
				t.Fatalf("Verdict for %d, %d: %v, %v of %v, %v, %v of %v", field, limit, v, e, before, u, f, after)
			}
			l, e := growth.Decides(before, field, limit)
			k, f := growth.Decides(after, field, limit)
			if e != api.OK || f != api.OK || slices.ContainsFunc(l, func(week int) bool { return !slices.Contains(k, week) }) {
				t.Fatalf("Decides for %d, %d: %v, %v of %v, %v, %v of %v", field, limit, l, e, before, k, f, after)
			}
		}
	}
}

// TestOneMoreVisit checks P4.11.
func TestOneMoreVisit(t *testing.T) {
	r := rand.New(rand.NewPCG(12, 12))
	compared, grown, narrower := 0, 0, 0
	for _, s := range seasons(12, 400) {
		var right []growth.Truth
		for field, f := range s.Fields {
			all := truths(s, field)
			if len(all) == 0 {
				all = choices(f)
			}
			right = append(right, all[r.IntN(len(all))])
		}
		more := with(s, someVisit(r, s, right))
		before, _ := growth.Leave(s)
		after, e := growth.Leave(more)
		if e != api.OK || len(after) < len(before) || len(after) > len(before)+1 {
			t.Fatalf("Leave of %v: %v; of %v: %v, %v", s, before, more, after, e)
		}
		if len(after) > len(before) {
			grown++
		}
		if len(after) > 0 {
			continue
		}
		compared++
		compare(t, more, s)
		compareLimits(t, s, more)
		b, _ := growth.Bounds(s)
		if c, _ := growth.Bounds(more); !slices.Equal(b, c) {
			narrower++
		}
	}
	if compared < 100 || grown < 20 || narrower < 50 {
		t.Errorf("%d seasons compared, %d with one more to leave out, %d with narrower bounds", compared, grown, narrower)
	}
}

// TestVisitThatDecides checks P4.12: the weeks that decide are just those after a visit in which nothing is open, whatever was seen.
func TestVisitThatDecides(t *testing.T) {
	open := 0
	for _, s := range seasons(13, 60) {
		if !hasTruth(t, s) || len(s.Visits) == api.MaxGrowthVisits {
			continue
		}
		for field := range s.Fields {
			for _, limit := range limits(s, field)[5:] {
				l, _ := growth.Decides(s, field, limit)
				v, _ := growth.Verdict(s, field, limit)
				if v != growth.Open && len(l) != s.Last+1 {
					t.Fatalf("Decides of %v, %d, %d: %v", s, field, limit, l)
				}
				if v == growth.Open {
					open++
				}
				for week := range s.Last + 1 {
					if settles(t, s, field, week, limit) != slices.Contains(l, week) {
						t.Fatalf("Decides of %v, %d, %d: %v, and the week %d", s, field, limit, l, week)
					}
				}
			}
		}
	}
	if open < 50 {
		t.Errorf("%d open", open)
	}
}

// settles asks the package whether the verdict is not Open after a visit in the week, for each number that can be seen.
func settles(t *testing.T, s growth.Season, field, week, limit int) bool {
	t.Helper()
	r, e := growth.Seen(s, field, week)
	if e != api.OK {
		t.Fatalf("Seen of %v, %d in week %d: %v, %v", s, field, week, r, e)
	}
	for n := r.Lo; n <= r.Hi; n++ {
		v, e := growth.Verdict(with(s, visit(field, week, at(n))), field, limit)
		if e != api.OK && e != api.ErrFalse {
			t.Fatalf("Verdict of %v, with %d seen in %d in week %d: %v", s, n, field, week, e)
		}
		if v == growth.Open {
			return false
		}
	}
	return true
}

// widen makes one range of a field, or of a visit, wider, and reports whether that is possible.
func widen(r *rand.Rand, s growth.Season) bool {
	f := &s.Fields[r.IntN(len(s.Fields))]
	wide, last := &f.Week, s.Last
	switch r.IntN(4) {
	case 1:
		wide, last = &f.Damage, 100
	case 2:
		wide, last = &f.Old, 100
	case 3:
		if len(s.Visits) == 0 {
			return false
		}
		wide, last = &s.Visits[r.IntN(len(s.Visits))].Seen, 100
	}
	before := *wide
	wide.Lo, wide.Hi = max(0, wide.Lo-r.IntN(9)), min(last, wide.Hi+r.IntN(9))
	return *wide != before
}

// TestWider checks P4.13.
func TestWider(t *testing.T) {
	r := rand.New(rand.NewPCG(14, 14))
	compared, fewer := 0, 0
	for _, s := range seasons(14, 500) {
		wider := clone(s)
		if !widen(r, wider) {
			continue
		}
		before, _ := growth.Leave(s)
		after, e := growth.Leave(wider)
		if e != api.OK || len(after) > len(before) {
			t.Fatalf("Leave of %v: %v; of %v: %v, %v", s, before, wider, after, e)
		}
		if len(after) < len(before) {
			fewer++
		}
		if hasTruth(t, s) {
			compared++
			compare(t, s, wider)
		}
	}
	if compared < 100 || fewer < 5 {
		t.Errorf("%d seasons compared, %d with fewer to leave out", compared, fewer)
	}
}

// TestFirst checks P4.14 by the calls alone.
func TestFirst(t *testing.T) {
	wrong := 0
	for _, s := range seasons(15, 300) {
		n, e := growth.First(s)
		if e == api.ErrNone {
			if n != 0 || !hasTruth(t, s) {
				t.Fatalf("First of %v: %v, %v", s, n, e)
			}
			continue
		}
		wrong++
		before, upTo := s, s
		before.Visits, upTo.Visits = s.Visits[:n], s.Visits[:n+1]
		if e != api.OK || !hasTruth(t, before) || hasTruth(t, upTo) {
			t.Fatalf("First of %v: %v, %v", s, n, e)
		}
	}
	if wrong < 50 {
		t.Errorf("%d seasons with a wrong visit", wrong)
	}
}

// TestLeftOut checks P4.15 by the calls alone: any shorter list is tried, and any list that is lexicographically before it.
func TestLeftOut(t *testing.T) {
	for _, s := range seasons(16, 300) {
		l, e := growth.Leave(s)
		if e != api.OK {
			t.Fatalf("Leave of %v: %v", s, e)
		}
		for _, list := range subsets(len(s.Visits)) {
			if slices.Equal(list, l) {
				break
			}
			if hasTruth(t, drop(s, list...)) {
				t.Fatalf("Leave of %v: %v, not %v", s, l, list)
			}
		}
		if !hasTruth(t, drop(s, l...)) {
			t.Fatalf("Leave of %v: %v", s, l)
		}
	}
}

// TestFieldByField checks P4.16: a field is the same without the visits of others, and alone.
func TestFieldByField(t *testing.T) {
	several := 0
	for _, s := range seasons(17, 60) {
		if !hasTruth(t, s) {
			continue
		}
		b, _ := growth.Bounds(s)
		for field := range s.Fields {
			without, alone := s, s
			without.Visits = slices.DeleteFunc(slices.Clone(s.Visits), func(v growth.Visit) bool { return v.Field != field })
			alone.Fields, alone.Visits = s.Fields[field:field+1], slices.Clone(without.Visits)
			for i := range alone.Visits {
				alone.Visits[i].Field = 0
			}
			if len(without.Visits) < len(s.Visits) {
				several++
			}
			c, e := growth.Bounds(without)
			d, f := growth.Bounds(alone)
			if e != api.OK || f != api.OK || b[field] != c[field] || b[field] != d[0] {
				t.Fatalf("Bounds of %v, field %d: %v, %v, %v", s, field, b[field], c, d)
			}
			if all := ofField(s, field); ofField(without, field) != all || ofField(alone, 0) != all {
				t.Fatalf("the field %d of %v is not the same without the visits of others", field, s)
			}
		}
	}
	if several < 20 {
		t.Errorf("%d fields with visits of others", several)
	}
}

// TestAnyOrder checks P7: the visits, or the fields, are listed in other orders.
func TestAnyOrder(t *testing.T) {
	r := rand.New(rand.NewPCG(18, 18))
	for _, s := range seasons(18, 200) {
		other := clone(s)
		r.Shuffle(len(other.Visits), func(i, k int) { other.Visits[i], other.Visits[k] = other.Visits[k], other.Visits[i] })
		slices.Reverse(other.Fields)
		for i, v := range other.Visits {
			other.Visits[i].Field = len(s.Fields) - 1 - v.Field
		}
		l, _ := growth.Leave(s)
		if k, _ := growth.Leave(other); len(l) != len(k) {
			t.Fatalf("Leave: %v of %v, %v of %v", l, s, k, other)
		}
		b, e := growth.Bounds(s)
		c, f := growth.Bounds(other)
		slices.Reverse(c)
		if !slices.Equal(b, c) || e != f {
			t.Fatalf("Bounds: %v, %v of %v, %v, %v of %v", b, e, s, c, f, other)
		}
		for field := range s.Fields {
			turned := len(s.Fields) - 1 - field
			for week := range s.Last + 1 {
				q, e := growth.Seen(s, field, week)
				if p, f := growth.Seen(other, turned, week); p != q || e != f {
					t.Fatalf("Seen of %d in week %d: %v, %v of %v, %v, %v of %v", field, week, q, e, s, p, f, other)
				}
			}
			for _, limit := range limits(s, field) {
				v, _ := growth.Verdict(s, field, limit)
				l, e := growth.Decides(s, field, limit)
				u, _ := growth.Verdict(other, turned, limit)
				if k, f := growth.Decides(other, turned, limit); u != v || !slices.Equal(l, k) || e != f {
					t.Fatalf("Verdict, Decides of %d, %d: %v, %v, %v of %v, %v, %v, %v of %v", field, limit, v, l, e, s, u, k, f, other)
				}
			}
		}
	}
}
