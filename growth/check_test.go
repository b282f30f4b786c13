package growth_test

import (
	"fmt"
	"math"
	"slices"
	"testing"

	"hailstone/api"
	"hailstone/growth"
)

// zeros is a rule of 0 for the weeks up to the last one.
func zeros(last int) []int { return make([]int, last+1) }

// smallest has one week, one crop and one field, in which nothing can be damaged.
func smallest() growth.Season { return one(ints(0), field(0, at(0), at(0), at(0))) }

// seasonCase changes the chapter's season, which then has an error, or OK.
type seasonCase struct {
	name   string
	change func(s *growth.Season)
	want   api.Errno
}

func checkCases(t *testing.T, cases []seasonCase) {
	t.Helper()
	for _, x := range cases {
		s := chapter()
		x.change(&s)
		if e := growth.CheckSeason(s); e != x.want {
			t.Errorf("%s: CheckSeason of %v: %v, not %v", x.name, s, e, x.want)
		}
		if x.want != api.OK {
			wantAll(t, x.name, s, x.want)
		} else if _, e := growth.Leave(s); e != api.OK {
			t.Errorf("%s: Leave of %v: %v", x.name, s, e)
		}
	}
}

// TestTooMany has the first row of the errors.
func TestTooMany(t *testing.T) {
	checkCases(t, []seasonCase{
		{"as it is", func(s *growth.Season) {}, api.OK},
		{"the smallest one", func(s *growth.Season) { *s = smallest() }, api.OK},
		{"last 12", func(s *growth.Season) { *s = one(zeros(12), s.Fields[0]) }, api.OK},
		{"last 13", func(s *growth.Season) { *s = one(zeros(13), s.Fields[0]) }, api.ErrLimit},
		{"last very large", func(s *growth.Season) { s.Last = math.MaxInt }, api.ErrLimit},
		{"3 crops", func(s *growth.Season) { s.Rules = slices.Repeat(s.Rules, 3) }, api.OK},
		{"4 crops", func(s *growth.Season) { s.Rules = slices.Repeat(s.Rules, 4) }, api.ErrLimit},
		{"3 fields", func(s *growth.Season) { s.Fields = slices.Repeat(s.Fields, 3) }, api.OK},
		{"4 fields", func(s *growth.Season) { s.Fields = slices.Repeat(s.Fields, 4) }, api.ErrLimit},
		{"6 visits", func(s *growth.Season) { s.Visits = slices.Repeat(s.Visits, 6) }, api.OK},
		{"7 visits", func(s *growth.Season) { s.Visits = slices.Repeat(s.Visits, 7) }, api.ErrLimit},

		{"last 13, and nothing else", func(s *growth.Season) { *s = growth.Season{Last: 13} }, api.ErrLimit},
		{"4 crops without weeks", func(s *growth.Season) { s.Rules = make([][]int, 4) }, api.ErrLimit},
		{"4 fields of no crop", func(s *growth.Season) { s.Rules, s.Fields = nil, make([]growth.Field, 4) }, api.ErrLimit},
		{"7 visits, and no fields", func(s *growth.Season) { s.Fields, s.Visits = nil, make([]growth.Visit, 7) }, api.ErrLimit},
		{"7 visits, and last below 0", func(s *growth.Season) { s.Last, s.Visits = -1, make([]growth.Visit, 7) }, api.ErrLimit},
		{"7 visits that are turned round", func(s *growth.Season) { s.Visits = slices.Repeat([]growth.Visit{visit(0, 0, to(2, 1))}, 7) }, api.ErrLimit},
	})
}

// TestInvalidSeasons has the second row of the errors.
func TestInvalidSeasons(t *testing.T) {
	checkCases(t, []seasonCase{
		{"nothing", func(s *growth.Season) { *s = growth.Season{} }, api.ErrArg},
		{"last below 0", func(s *growth.Season) { s.Last = -1 }, api.ErrArg},
		{"last below 0, without weeks", func(s *growth.Season) { s.Last, s.Rules, s.Visits = -1, [][]int{{}}, nil }, api.ErrArg},
		{"last far below 0", func(s *growth.Season) { s.Last = math.MinInt }, api.ErrArg},
		{"no crops", func(s *growth.Season) { s.Rules = nil }, api.ErrArg},
		{"an empty list of crops", func(s *growth.Season) { s.Rules = [][]int{} }, api.ErrArg},
		{"no fields", func(s *growth.Season) { s.Fields, s.Visits = nil, nil }, api.ErrArg},
		{"an empty list of fields", func(s *growth.Season) { s.Fields, s.Visits = []growth.Field{}, nil }, api.ErrArg},
		{"no visits", func(s *growth.Season) { s.Visits = nil }, api.OK},
		{"an empty list of visits", func(s *growth.Season) { s.Visits = []growth.Visit{} }, api.OK},

		{"a rule for too few weeks", func(s *growth.Season) { s.Rules[0] = s.Rules[0][:6] }, api.ErrArg},
		{"a rule for too many weeks", func(s *growth.Season) { s.Rules[0] = zeros(7) }, api.ErrArg},
		{"a rule for no weeks", func(s *growth.Season) { s.Rules[0] = nil }, api.ErrArg},
		{"an empty rule", func(s *growth.Season) { s.Rules[0] = []int{} }, api.ErrArg},
		{"the last rule for too few weeks", func(s *growth.Season) { s.Rules = append(s.Rules, zeros(6), zeros(5)) }, api.ErrArg},
		{"other rules", func(s *growth.Season) { s.Rules = append(s.Rules, zeros(6), zeros(6)) }, api.OK},
		{"a rule of 100", func(s *growth.Season) { s.Rules[0][6] = 100 }, api.OK},
		{"a rule of 101", func(s *growth.Season) { s.Rules[0][6] = 101 }, api.ErrArg},
		{"a rule of 101 for the first week", func(s *growth.Season) { s.Rules[0][0] = 101 }, api.ErrArg},
		{"a rule of 101 for no field", func(s *growth.Season) { s.Rules = append(s.Rules, ints(0, 0, 0, 101, 0, 0, 0)) }, api.ErrArg},
		{"a rule below 0", func(s *growth.Season) { s.Rules[0][3] = -1 }, api.ErrArg},
		{"a rule very large", func(s *growth.Season) { s.Rules[0][3] = math.MaxInt }, api.ErrArg},
		{"a rule far below 0", func(s *growth.Season) { s.Rules[0][3] = math.MinInt }, api.ErrArg},

		{"the last crop", func(s *growth.Season) { s.Rules, s.Fields[0].Crop = slices.Repeat(s.Rules, 3), 2 }, api.OK},
		{"a crop beyond", func(s *growth.Season) { s.Fields[0].Crop = 1 }, api.ErrArg},
		{"a crop beyond three", func(s *growth.Season) { s.Rules, s.Fields[0].Crop = slices.Repeat(s.Rules, 3), 3 }, api.ErrArg},
		{"a crop below 0", func(s *growth.Season) { s.Fields[0].Crop = -1 }, api.ErrArg},
		{"a crop very large", func(s *growth.Season) { s.Fields[0].Crop = math.MaxInt }, api.ErrArg},
		{"a crop far below 0", func(s *growth.Season) { s.Fields[0].Crop = math.MinInt }, api.ErrArg},
		{"the last field is bad", func(s *growth.Season) {
			s.Fields = append(s.Fields, s.Fields[0], field(1, at(0), at(0), at(0)))
		}, api.ErrArg},

		{"the last field is visited", func(s *growth.Season) { s.Fields, s.Visits[0].Field = slices.Repeat(s.Fields, 3), 2 }, api.OK},
		{"a field beyond", func(s *growth.Season) { s.Visits[0].Field = 1 }, api.ErrArg},
		{"a field beyond three", func(s *growth.Season) { s.Fields, s.Visits[0].Field = slices.Repeat(s.Fields, 3), 3 }, api.ErrArg},
		{"a field below 0", func(s *growth.Season) { s.Visits[0].Field = -1 }, api.ErrArg},
		{"a field very large", func(s *growth.Season) { s.Visits[0].Field = math.MaxInt }, api.ErrArg},
		{"a field far below 0", func(s *growth.Season) { s.Visits[0].Field = math.MinInt }, api.ErrArg},
		{"the week 0", func(s *growth.Season) { s.Visits[0].Week = 0 }, api.OK},
		{"the week Last", func(s *growth.Season) { s.Visits[0].Week = 6 }, api.OK},
		{"a week beyond", func(s *growth.Season) { s.Visits[0].Week = 7 }, api.ErrArg},
		{"a week below 0", func(s *growth.Season) { s.Visits[0].Week = -1 }, api.ErrArg},
		{"a week very large", func(s *growth.Season) { s.Visits[0].Week = math.MaxInt }, api.ErrArg},
		{"a week far below 0", func(s *growth.Season) { s.Visits[0].Week = math.MinInt }, api.ErrArg},
		{"the last visit is bad", func(s *growth.Season) { s.Visits = append(s.Visits, s.Visits[0], visit(0, 0, to(2, 1))) }, api.ErrArg},
	})
}

// TestInvalidRanges has the second row of the errors too, for each range.
func TestInvalidRanges(t *testing.T) {
	for _, x := range []struct {
		name string
		last int
		get  func(s *growth.Season) *growth.Range
	}{
		{"week", 6, func(s *growth.Season) *growth.Range { return &s.Fields[0].Week }},
		{"damage", 100, func(s *growth.Season) *growth.Range { return &s.Fields[0].Damage }},
		{"old", 100, func(s *growth.Season) *growth.Range { return &s.Fields[0].Old }},
		{"seen", 100, func(s *growth.Season) *growth.Range { return &s.Visits[0].Seen }},
	} {
		var cases []seasonCase
		for _, y := range []struct {
			r    growth.Range
			want api.Errno
		}{
			{at(0), api.OK},
			{at(x.last), api.OK},
			{to(0, x.last), api.OK},
			{to(x.last-1, x.last), api.OK},
			{to(x.last, x.last+1), api.ErrArg},
			{at(x.last + 1), api.ErrArg},
			{to(-1, 0), api.ErrArg},
			{at(-1), api.ErrArg},
			{to(2, 1), api.ErrArg},
			{to(x.last, 0), api.ErrArg},
			{to(0, math.MaxInt), api.ErrArg},
			{to(math.MinInt, 0), api.ErrArg},
			{to(math.MinInt, math.MaxInt), api.ErrArg},
			{to(math.MaxInt, math.MinInt), api.ErrArg},
			{at(math.MaxInt), api.ErrArg},
			{at(math.MinInt), api.ErrArg},
		} {
			cases = append(cases, seasonCase{fmt.Sprint(x.name, y.r), func(s *growth.Season) {
				s.Fields[0] = field(0, at(1), at(1), at(1))
				*x.get(s) = y.r
			}, y.want})
		}
		checkCases(t, cases)
	}
}

// TestTooGreatSizes has the third row of the errors.
func TestTooGreatSizes(t *testing.T) {
	wide := func(weeks, damages, olds int) growth.Field {
		return field(0, to(13-weeks, 12), to(0, damages-1), to(101-olds, 100))
	}
	checkCases(t, []seasonCase{
		{"3000 choices", func(s *growth.Season) { *s = one(zeros(12), wide(10, 30, 10)) }, api.OK},
		{"3000 choices without damage", func(s *growth.Season) { *s = one(zeros(12), wide(3, 10, 100)) }, api.OK},
		{"3003 choices", func(s *growth.Season) { *s = one(zeros(12), wide(11, 91, 3)) }, api.ErrLimit},
		{"3010 choices", func(s *growth.Season) { *s = one(zeros(12), wide(7, 43, 10)) }, api.ErrLimit},
		{"all choices", func(s *growth.Season) { *s = one(zeros(12), wide(13, 101, 101)) }, api.ErrLimit},
		{"3000 choices of each field", func(s *growth.Season) {
			*s = season([][]int{zeros(12)}, slices.Repeat([]growth.Field{wide(10, 30, 10)}, 3))
		}, api.OK},
		{"3003 choices of the last field", func(s *growth.Season) {
			*s = season([][]int{zeros(12)}, []growth.Field{wide(1, 1, 1), wide(10, 30, 10), wide(11, 91, 3)})
		}, api.ErrLimit},
		{"3003 choices that a visit leaves few of", func(s *growth.Season) { *s = one(zeros(12), wide(11, 91, 3), visit(0, 12, at(99))) }, api.ErrLimit},

		{"too many choices, and 7 visits", func(s *growth.Season) {
			*s = one(zeros(12), wide(13, 101, 101), make([]growth.Visit, 7)...)
		}, api.ErrLimit},
		{"too many choices, and a bad rule", func(s *growth.Season) {
			*s = one(zeros(12), wide(13, 101, 101))
			s.Rules[0][12] = 101
		}, api.ErrArg},
		{"too many choices, and a bad field after it", func(s *growth.Season) {
			*s = season([][]int{zeros(12)}, []growth.Field{wide(13, 101, 101), field(1, at(0), at(0), at(0))})
		}, api.ErrArg},
		{"too many choices, and a bad visit", func(s *growth.Season) { *s = one(zeros(12), wide(13, 101, 101), visit(1, 0, at(0))) }, api.ErrArg},
	})
}

// wantAll checks that each call returns the error of the season, whatever its other arguments are, and nothing else.
func wantAll(t *testing.T, name string, s growth.Season, want api.Errno) {
	t.Helper()
	for _, n := range ints(0, 1, -1, 100, 101, math.MaxInt) {
		wantAllOf(t, name, s, 0, n, want)
		wantAllOf(t, name, s, n, 0, want)
	}
	if v, e := growth.Bounds(s); len(v) != 0 || e != want {
		t.Errorf("%s: Bounds: %v, %v", name, v, e)
	}
	if n, e := growth.First(s); n != 0 || e != want {
		t.Errorf("%s: First: %v, %v", name, n, e)
	}
	if l, e := growth.Leave(s); len(l) != 0 || e != want {
		t.Errorf("%s: Leave: %v, %v", name, l, e)
	}
}

// wantAllOf checks the calls that ask about a field, and a week or a limit n.
func wantAllOf(t *testing.T, name string, s growth.Season, field, n int, want api.Errno) {
	t.Helper()
	if v, e := growth.Seen(s, field, n); v != at(0) || e != want {
		t.Errorf("%s: Seen: %v, %v", name, v, e)
	}
	for _, high := range []bool{false, true} {
		if x, e := growth.Show(s, field, high); x != truth(0, 0, 0) || e != want {
			t.Errorf("%s: Show: %v, %v", name, x, e)
		}
	}
	if v, e := growth.Verdict(s, field, n); v != 0 || e != want {
		t.Errorf("%s: Verdict: %v, %v", name, v, e)
	}
	if l, e := growth.Decides(s, field, n); len(l) != 0 || e != want {
		t.Errorf("%s: Decides: %v, %v", name, l, e)
	}
	for _, x := range []growth.Truth{{}, truth(1, 60, 5), truth(2, 45, 5), truth(1, 1, 1), truth(n, n, n), truth(12, 1, 99)} {
		if h := growth.Harvest(s, field, x); h != 0 {
			t.Errorf("%s: Harvest of %v: %v", name, x, h)
		}
		if growth.ProveTruth(s, field, x) {
			t.Errorf("%s: ProveTruth of %v", name, x)
		}
	}
}

// TestErrorsOfFields has the row ErrRange, which comes before ErrFalse, for fields that there are not.
func TestErrorsOfFields(t *testing.T) {
	three := chapter()
	three.Fields = slices.Repeat(three.Fields, 3)
	untrue := with(three, never())
	for _, x := range []struct {
		s     growth.Season
		field int
		want  api.Errno
	}{
		{chapter(), 0, api.OK},
		{chapter(), 1, api.ErrRange},
		{chapter(), 2, api.ErrRange},
		{chapter(), 3, api.ErrRange},
		{chapter(), -1, api.ErrRange},
		{chapter(), math.MaxInt, api.ErrRange},
		{chapter(), math.MinInt, api.ErrRange},
		{three, 2, api.OK},
		{three, 3, api.ErrRange},
		{untrue, 0, api.ErrFalse},
		{untrue, 1, api.ErrFalse},
		{untrue, 2, api.ErrFalse},
		{untrue, 3, api.ErrRange},
		{untrue, -1, api.ErrRange},
	} {
		if v, e := growth.Seen(x.s, x.field, 0); e != x.want || e != api.OK && v != at(0) {
			t.Errorf("Seen of %v, %d: %v, %v, not %v", x.s, x.field, v, e, x.want)
		}
		if v, e := growth.Show(x.s, x.field, true); e != x.want || e != api.OK && v != truth(0, 0, 0) {
			t.Errorf("Show of %v, %d: %v, %v, not %v", x.s, x.field, v, e, x.want)
		}
		if v, e := growth.Verdict(x.s, x.field, 34); e != x.want || (v == 0) != (e != api.OK) {
			t.Errorf("Verdict of %v, %d: %v, %v, not %v", x.s, x.field, v, e, x.want)
		}
		if l, e := growth.Decides(x.s, x.field, 34); e != x.want || (len(l) == 0) != (e != api.OK) {
			t.Errorf("Decides of %v, %d: %v, %v, not %v", x.s, x.field, l, e, x.want)
		}
		if h := growth.Harvest(x.s, x.field, truth(1, 60, 5)); (h == 0) != (x.want == api.ErrRange) {
			t.Errorf("Harvest of %v, %d: %v", x.s, x.field, h)
		}
		if is := growth.ProveTruth(x.s, x.field, truth(1, 60, 5)); is != (x.want == api.OK || x.want == api.ErrFalse && x.field > 0) {
			t.Errorf("ProveTruth of %v, %d: %v", x.s, x.field, is)
		}
	}
}

// TestErrorsOfWeeksAndLimits has the row ErrRange for weeks and limits, and the row ErrFalse.
func TestErrorsOfWeeksAndLimits(t *testing.T) {
	untrue := chapter(never())
	for _, x := range []struct {
		s    growth.Season
		n    int
		seen api.Errno
		want api.Errno
	}{
		{chapter(), 0, api.OK, api.OK},
		{chapter(), 6, api.OK, api.OK},
		{chapter(), 7, api.ErrRange, api.OK},
		{chapter(), 12, api.ErrRange, api.OK},
		{chapter(), 13, api.ErrRange, api.OK},
		{chapter(), 100, api.ErrRange, api.OK},
		{chapter(), 101, api.ErrRange, api.ErrRange},
		{chapter(), -1, api.ErrRange, api.ErrRange},
		{chapter(), math.MaxInt, api.ErrRange, api.ErrRange},
		{chapter(), math.MinInt, api.ErrRange, api.ErrRange},
		{untrue, 0, api.ErrFalse, api.ErrFalse},
		{untrue, 6, api.ErrFalse, api.ErrFalse},
		{untrue, 7, api.ErrRange, api.ErrFalse},
		{untrue, 100, api.ErrRange, api.ErrFalse},
		{untrue, 101, api.ErrRange, api.ErrRange},
		{untrue, -1, api.ErrRange, api.ErrRange},
	} {
		if v, e := growth.Seen(x.s, 0, x.n); e != x.seen || e != api.OK && v != at(0) {
			t.Errorf("Seen of %v, %d: %v, %v, not %v", x.s, x.n, v, e, x.seen)
		}
		if v, e := growth.Verdict(x.s, 0, x.n); e != x.want || (v == 0) != (e != api.OK) {
			t.Errorf("Verdict of %v, %d: %v, %v, not %v", x.s, x.n, v, e, x.want)
		}
		if l, e := growth.Decides(x.s, 0, x.n); e != x.want || e != api.OK && len(l) != 0 {
			t.Errorf("Decides of %v, %d: %v, %v, not %v", x.s, x.n, l, e, x.want)
		}
	}
	if b, e := growth.Bounds(untrue); len(b) != 0 || e != api.ErrFalse {
		t.Errorf("Bounds of %v: %v, %v", untrue, b, e)
	}
	if n, e := growth.First(untrue); n != 1 || e != api.OK {
		t.Errorf("First of %v: %v, %v", untrue, n, e)
	}
	if n, e := growth.First(chapter()); n != 0 || e != api.ErrNone {
		t.Errorf("First of %v: %v, %v", chapter(), n, e)
	}
	if l, e := growth.Leave(untrue); !slices.Equal(l, ints(1)) || e != api.OK {
		t.Errorf("Leave of %v: %v, %v", untrue, l, e)
	}
}

// numbers are all numbers of a season.
func numbers(s *growth.Season) []*int {
	list := []*int{&s.Last}
	for _, rule := range s.Rules {
		for i := range rule {
			list = append(list, &rule[i])
		}
	}
	for i := range s.Fields {
		f := &s.Fields[i]
		list = append(list, &f.Crop, &f.Week.Lo, &f.Week.Hi, &f.Damage.Lo, &f.Damage.Hi, &f.Old.Lo, &f.Old.Hi)
	}
	for i := range s.Visits {
		v := &s.Visits[i]
		list = append(list, &v.Field, &v.Week, &v.Seen.Lo, &v.Seen.Hi)
	}
	return list
}

// TestAnyArguments calls everything with numbers of any size: nothing panics, and all calls agree on the error of the season (P1, R1).
func TestAnyArguments(t *testing.T) {
	odd := ints(math.MinInt, math.MinInt+1, -1, 0, 1, 2, 3, 4, 11, 12, 13, 14, 50, 99, 100, 101, math.MaxInt-1, math.MaxInt)
	base := season([][]int{{0, 10, 5}, {0, 0, 30}}, []growth.Field{field(1, to(1, 2), to(40, 44), to(5, 6)), field(0, at(0), to(3, 4), to(0, 50))}, visit(0, 2, to(30, 45)), visit(1, 1, to(4, 12)))
	for of := range numbers(&base) {
		for _, n := range odd {
			s := clone(base)
			*numbers(&s)[of] = n
			want := checked(s)
			if e := growth.CheckSeason(s); e != want {
				t.Errorf("CheckSeason of %v: %v, not %v", s, e, want)
			}
			if want != api.OK {
				wantAll(t, fmt.Sprint(s), s, want)
			}
			for _, m := range odd {
				growth.Seen(s, m, n)
				growth.Seen(s, 1, m)
				growth.Show(s, m, m > n)
				growth.Verdict(s, m, n)
				growth.Verdict(s, 0, m)
				growth.Decides(s, m, n)
				growth.Decides(s, 1, m)
				growth.Harvest(s, 0, truth(m, n, m))
				growth.ProveTruth(s, m, truth(n, m, m))
			}
			growth.Bounds(s)
			growth.First(s)
			growth.Leave(s)
		}
	}
}

// checked is the error of a season whose lists are not too long, by counting what is not so.
func checked(s growth.Season) api.Errno {
	if s.Last > 12 {
		return api.ErrLimit
	}
	bad := 0
	within := func(r growth.Range, last int) {
		if r.Lo < 0 || r.Hi > last || r.Lo > r.Hi {
			bad++
		}
	}
	for _, rule := range s.Rules {
		if len(rule)-1 != s.Last {
			bad++
		}
		for _, n := range rule {
			within(at(n), 100)
		}
	}
	for _, f := range s.Fields {
		within(at(f.Crop), len(s.Rules)-1)
		within(f.Week, s.Last)
		within(f.Damage, 100)
		within(f.Old, 100)
	}
	for _, v := range s.Visits {
		within(at(v.Field), len(s.Fields)-1)
		within(at(v.Week), s.Last)
		within(v.Seen, 100)
	}
	if bad > 0 {
		return api.ErrArg
	}
	for _, f := range s.Fields {
		if len(choices(f)) > 3000 {
			return api.ErrLimit
		}
	}
	return api.OK
}
