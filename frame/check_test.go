package frame_test

import (
	"fmt"
	"math"
	"slices"
	"testing"

	"hailstone/api"
	"hailstone/frame"
)

// zeros is a field without stems.
func zeros(rows, columns int) frame.Field { return field(rows, columns, make([]int, rows*columns)...) }

// fields are fields with their errors.
var fields = []struct {
	name string
	f    frame.Field
	want api.Errno
}{
	{"one place", field(1, 1, 0), api.OK},
	{"9 stems", field(1, 1, 9), api.OK},
	{"1 row of 4", field(1, 4, 9, 0, 1, 2), api.OK},
	{"4 rows of 1", field(4, 1, 9, 0, 1, 2), api.OK},
	{"9 places", zeros(3, 3), api.OK},
	{"8 places", zeros(4, 2), api.OK},
	{"8 places, turned", zeros(2, 4), api.OK},
	{"nothing", frame.Field{}, api.ErrArg},
	{"12 places", zeros(3, 4), api.ErrArg},
	{"12 places, turned", zeros(4, 3), api.ErrArg},
	{"16 places", zeros(4, 4), api.ErrArg},
	{"12 places with the stems of 9", field(3, 4, make([]int, 9)...), api.ErrArg},
	{"no rows", field(0, 1, 0), api.ErrArg},
	{"no rows, and no stems", field(0, 3), api.ErrArg},
	{"no columns", field(1, 0, 0), api.ErrArg},
	{"no columns, and no stems", field(3, 0), api.ErrArg},
	{"5 rows", zeros(5, 1), api.ErrArg},
	{"5 columns", zeros(1, 5), api.ErrArg},
	{"9 columns", zeros(1, 9), api.ErrArg},
	{"rows below 0", field(-1, 1, 0), api.ErrArg},
	{"rows and columns below 0", field(-1, -1, 0), api.ErrArg},
	{"rows and columns below 0, and 4 places", field(-2, -2, 0, 0, 0, 0), api.ErrArg},
	{"very many rows", field(math.MaxInt, 1, 0), api.ErrArg},
	{"very many rows and columns", field(math.MaxInt, math.MaxInt, 0), api.ErrArg},
	{"rows far below 0", field(math.MinInt, 1, 0), api.ErrArg},
	{"rows and columns that wrap around", field(1<<32, 1<<32), api.ErrArg},
	{"too few stems", field(2, 2, 0, 0, 0), api.ErrArg},
	{"too many stems", field(2, 2, 0, 0, 0, 0, 0), api.ErrArg},
	{"nil stems", field(1, 1), api.ErrArg},
	{"an empty list of stems", frame.Field{Rows: 1, Columns: 1, Stems: []int{}}, api.ErrArg},
	{"10 stems", field(1, 2, 0, 10), api.ErrArg},
	{"stems below 0", field(1, 2, -1, 0), api.ErrArg},
	{"very many stems", field(1, 2, 0, math.MaxInt), api.ErrArg},
	{"stems far below 0", field(1, 2, 0, math.MinInt), api.ErrArg},
}

func TestCheckField(t *testing.T) {
	for _, x := range fields {
		if e := frame.CheckField(x.f); e != x.want {
			t.Errorf("%s: CheckField of %v: %v, not %v", x.name, x.f, e, x.want)
		}
		l, e := frame.Draw(x.f, lot(5, 7, 0))
		if len(l) != 0 || e != x.want {
			t.Errorf("%s: Draw: %v, %v", x.name, l, e)
		}
		if l, e := frame.Foreign(x.f, lot(5, 7, 0), nil); len(l) != 0 || e != x.want {
			t.Errorf("%s: Foreign: %v, %v", x.name, l, e)
		}
		if e := frame.CheckSurvey(survey(x.f, 0)); e != x.want {
			t.Errorf("%s: CheckSurvey: %v", x.name, e)
		}
		if x.want != api.OK {
			wantAll(t, x.name, survey(x.f, 0), x.want)
		}
	}
}

func TestErrorsOfLots(t *testing.T) {
	f := zeros(3, 3)
	seven := slices.Repeat([]frame.Count{count(0, at(0))}, 7)
	for _, x := range []struct {
		name   string
		f      frame.Field
		l      frame.Lot
		counts []frame.Count
		draw   api.Errno
		want   api.Errno
	}{
		{"nothing drawn", f, lot(0, 0, 0), nil, api.OK, api.OK},
		{"the greatest numbers", f, lot(9999, 9999, 6), seven[:6], api.OK, api.OK},
		{"seed 10000", f, lot(10000, 0, 1), nil, api.ErrRange, api.ErrRange},
		{"seed below 0", f, lot(-1, 0, 1), nil, api.ErrRange, api.ErrRange},
		{"seed very large", f, lot(math.MaxInt, 0, 1), nil, api.ErrRange, api.ErrRange},
		{"seed far below 0", f, lot(math.MinInt, 0, 1), nil, api.ErrRange, api.ErrRange},
		{"step 10000", f, lot(0, 10000, 1), nil, api.ErrRange, api.ErrRange},
		{"step below 0", f, lot(0, -1, 1), nil, api.ErrRange, api.ErrRange},
		{"step very large", f, lot(0, math.MaxInt, 1), nil, api.ErrRange, api.ErrRange},
		{"step far below 0", f, lot(0, math.MinInt, 1), nil, api.ErrRange, api.ErrRange},
		{"7 draws", f, lot(0, 0, 7), nil, api.ErrRange, api.ErrRange},
		{"draws below 0", f, lot(0, 0, -1), nil, api.ErrRange, api.ErrRange},
		{"very many draws", f, lot(0, 0, math.MaxInt), nil, api.ErrRange, api.ErrRange},
		{"draws far below 0", f, lot(0, 0, math.MinInt), nil, api.ErrRange, api.ErrRange},
		{"a bad seed of no draws", f, lot(-1, 0, 0), nil, api.ErrRange, api.ErrRange},
		{"as many draws as places", zeros(2, 2), lot(1, 1, 4), nil, api.OK, api.OK},
		{"one draw more than places", zeros(2, 2), lot(1, 1, 5), nil, api.ErrRange, api.ErrRange},
		{"one draw of one place", zeros(1, 1), lot(1, 1, 1), nil, api.OK, api.OK},
		{"two draws of one place", zeros(1, 1), lot(1, 1, 2), nil, api.ErrRange, api.ErrRange},
		{"7 counts", f, lot(0, 0, 1), seven, api.OK, api.ErrLimit},
		{"7 counts, and a bad lot", f, lot(0, 0, 7), seven, api.ErrRange, api.ErrRange},
		{"7 counts, and a bad field", field(1, 1, 10), lot(0, 0, 1), seven, api.ErrArg, api.ErrArg},
		{"a bad field and a bad lot", field(1, 1, 10), lot(0, 0, 7), nil, api.ErrArg, api.ErrArg},
	} {
		l, e := frame.Draw(x.f, x.l)
		if e != x.draw || e == api.OK && len(l) != x.l.Draws || e != api.OK && len(l) != 0 {
			t.Errorf("%s: Draw: %v, %v, not %v", x.name, l, e, x.draw)
		}
		l, e = frame.Foreign(x.f, x.l, x.counts)
		if e != x.want || e != api.OK && len(l) != 0 {
			t.Errorf("%s: Foreign: %v, %v, not %v", x.name, l, e, x.want)
		}
	}
}

func TestCheckSurveyErrors(t *testing.T) {
	for _, x := range []struct {
		name   string
		change func(s *frame.Survey)
		want   api.Errno
	}{
		{"as it is", func(s *frame.Survey) {}, api.OK},
		{"nothing", func(s *frame.Survey) { *s = frame.Survey{} }, api.ErrArg},
		{"the smallest one", func(s *frame.Survey) { *s = survey(zeros(1, 1), 0) }, api.OK},

		{"6 counts", func(s *frame.Survey) { s.Counts = slices.Repeat(s.Counts[:1], 6) }, api.OK},
		{"7 counts", func(s *frame.Survey) { s.Counts = slices.Repeat(s.Counts[:1], 7) }, api.ErrLimit},
		{"7 late counts", func(s *frame.Survey) { s.Counts = slices.Repeat([]frame.Count{late(0, at(0))}, 7) }, api.ErrLimit},
		{"no counts", func(s *frame.Survey) { s.Counts = nil }, api.OK},
		{"an empty list of counts", func(s *frame.Survey) { s.Counts = []frame.Count{} }, api.OK},

		{"smooth 0", func(s *frame.Survey) { s.Smooth = 0 }, api.OK},
		{"smooth 9", func(s *frame.Survey) { s.Smooth = 9 }, api.OK},
		{"smooth 10", func(s *frame.Survey) { s.Smooth = 10 }, api.ErrArg},
		{"smooth below 0", func(s *frame.Survey) { s.Smooth = -1 }, api.ErrArg},
		{"smooth very large", func(s *frame.Survey) { s.Smooth = math.MaxInt }, api.ErrArg},
		{"smooth far below 0", func(s *frame.Survey) { s.Smooth = math.MinInt }, api.ErrArg},

		{"the last place", func(s *frame.Survey) { s.Counts[1].Place = 3 }, api.OK},
		{"a place beyond", func(s *frame.Survey) { s.Counts[1].Place = 4 }, api.ErrArg},
		{"a place beyond, late", func(s *frame.Survey) { s.Counts[1] = late(4, at(0)) }, api.ErrArg},
		{"a place below 0", func(s *frame.Survey) { s.Counts[1].Place = -1 }, api.ErrArg},
		{"a place very far", func(s *frame.Survey) { s.Counts[1].Place = math.MaxInt }, api.ErrArg},
		{"a place far below 0", func(s *frame.Survey) { s.Counts[1].Place = math.MinInt }, api.ErrArg},
		{"a place of another field", func(s *frame.Survey) { *s = survey(zeros(2, 2), 0, count(8, at(0))) }, api.ErrArg},
		{"hits 0..9", func(s *frame.Survey) { s.Counts[1].Hits = to(0, 9) }, api.OK},
		{"hits 9..9", func(s *frame.Survey) { s.Counts[1].Hits = at(9) }, api.OK},
		{"hits 0..10", func(s *frame.Survey) { s.Counts[1].Hits = to(0, 10) }, api.ErrArg},
		{"hits below 0", func(s *frame.Survey) { s.Counts[1].Hits = to(-1, 2) }, api.ErrArg},
		{"hits turned round", func(s *frame.Survey) { s.Counts[1].Hits = to(2, 1) }, api.ErrArg},
		{"hits turned round, late", func(s *frame.Survey) { s.Counts[1] = late(3, to(2, 1)) }, api.ErrArg},
		{"hits all below 0", func(s *frame.Survey) { s.Counts[1].Hits = at(-1) }, api.ErrArg},
		{"hits all beyond", func(s *frame.Survey) { s.Counts[1].Hits = at(10) }, api.ErrArg},
		{"hits of all numbers", func(s *frame.Survey) { s.Counts[1].Hits = to(math.MinInt, math.MaxInt) }, api.ErrArg},
		{"hits of all numbers, turned round", func(s *frame.Survey) { s.Counts[1].Hits = to(math.MaxInt, math.MinInt) }, api.ErrArg},

		{"2000 choices", func(s *frame.Survey) { *s = survey(field(1, 4, 9, 9, 9, 1), 0) }, api.OK},
		{"2000 choices of 6 places", func(s *frame.Survey) { *s = survey(field(2, 3, 4, 4, 4, 3, 3, 0), 9) }, api.OK},
		{"2016 choices", func(s *frame.Survey) { *s = survey(field(2, 3, 8, 7, 6, 3, 0, 0), 9) }, api.ErrLimit},
		{"2025 choices, few of them smooth", func(s *frame.Survey) { *s = survey(field(2, 2, 8, 8, 4, 4), 0) }, api.ErrLimit},
		{"all choices", func(s *frame.Survey) { *s = survey(field(3, 3, 9, 9, 9, 9, 9, 9, 9, 9, 9), 9) }, api.ErrLimit},

		{"7 counts, and no field", func(s *frame.Survey) { *s = frame.Survey{Counts: make([]frame.Count, 7)} }, api.ErrLimit},
		{"7 counts, and a bad one", func(s *frame.Survey) { s.Counts = slices.Repeat([]frame.Count{count(99, at(0))}, 7) }, api.ErrLimit},
		{"7 counts, and a bad smooth", func(s *frame.Survey) { s.Smooth, s.Counts = -1, make([]frame.Count, 7) }, api.ErrLimit},
		{"too many choices, and a bad smooth", func(s *frame.Survey) { *s = survey(field(1, 4, 9, 9, 9, 9), 10) }, api.ErrArg},
		{"too many choices, and a bad last count", func(s *frame.Survey) {
			*s = survey(field(1, 4, 9, 9, 9, 9), 9, count(0, at(0)), count(4, at(0)))
		}, api.ErrArg},
		{"too many choices, and bad stems", func(s *frame.Survey) { *s = survey(field(1, 4, 9, 9, 9, 10), 9) }, api.ErrArg},
	} {
		s := chapter()
		x.change(&s)
		if e := frame.CheckSurvey(s); e != x.want {
			t.Errorf("%s: CheckSurvey of %v: %v, not %v", x.name, s, e, x.want)
		}
		if x.want != api.OK {
			wantAll(t, x.name, s, x.want)
		} else if _, e := frame.Leave(s); e != api.OK {
			t.Errorf("%s: Leave of %v: %v", x.name, s, e)
		}
	}
}

// wantAll checks that each call returns the error of the survey, whatever its other arguments are, and nothing else.
func wantAll(t *testing.T, name string, s frame.Survey, want api.Errno) {
	t.Helper()
	for _, n := range ints(0, 1, -1, 100, 101, math.MaxInt) {
		if v, e := frame.Hits(s, n); v != at(0) || e != want {
			t.Errorf("%s: Hits: %v, %v", name, v, e)
		}
		if v, e := frame.Above(s, n); v != 0 || e != want {
			t.Errorf("%s: Above: %v, %v", name, v, e)
		}
		if l, e := frame.Fewest(s, n); len(l) != 0 || e != want {
			t.Errorf("%s: Fewest: %v, %v", name, l, e)
		}
	}
	for _, list := range [][]int{nil, {0}, {-1}, s.Field.Stems, make([]int, len(s.Field.Stems)), make([]int, 20)} {
		if v, e := frame.Share(s, list); v != 0 || e != want {
			t.Errorf("%s: Share of %v: %v, %v", name, list, v, e)
		}
		if frame.ProveTruth(s, list) {
			t.Errorf("%s: ProveTruth of %v", name, list)
		}
	}
	if v, e := frame.Bounds(s); v != at(0) || e != want {
		t.Errorf("%s: Bounds: %v, %v", name, v, e)
	}
	if l, e := frame.Leave(s); len(l) != 0 || e != want {
		t.Errorf("%s: Leave: %v, %v", name, l, e)
	}
}

// TestErrorsOfShares has lists that have not the hits of each place: they are no truths either.
func TestErrorsOfShares(t *testing.T) {
	s := survey(field(2, 2, 3, 0, 1, 9), 9)
	for _, x := range []struct {
		list []int
		want api.Errno
	}{
		{ints(0, 0, 0, 0), api.OK},
		{ints(3, 0, 1, 9), api.OK},
		{ints(4, 0, 1, 9), api.ErrRange},
		{ints(3, 1, 1, 9), api.ErrRange},
		{ints(3, 0, 2, 9), api.ErrRange},
		{ints(3, 0, 1, 10), api.ErrRange},
		{ints(-1, 0, 1, 9), api.ErrRange},
		{ints(3, -1, 1, 9), api.ErrRange},
		{ints(3, 0, 1, -1), api.ErrRange},
		{ints(3, 0, math.MaxInt, 9), api.ErrRange},
		{ints(3, 0, math.MinInt, 9), api.ErrRange},
		{ints(3, 0, 1), api.ErrRange},
		{ints(3, 0, 1, 9, 0), api.ErrRange},
		{make([]int, 9), api.ErrRange},
		{make([]int, 10), api.ErrRange},
		{make([]int, 1000), api.ErrRange},
		{ints(), api.ErrRange},
		{nil, api.ErrRange},
	} {
		if v, e := frame.Share(s, x.list); e != x.want || e != api.OK && v != 0 {
			t.Errorf("Share of %v: %v, %v, not %v", x.list, v, e, x.want)
		}
		if got := frame.ProveTruth(s, x.list); got != (x.want == api.OK) {
			t.Errorf("ProveTruth of %v: %v", x.list, got)
		}
	}
}

// TestErrorsOfPartsAndPlaces has the rows ErrRange, which come before ErrFail, and the row ErrFail.
func TestErrorsOfPartsAndPlaces(t *testing.T) {
	untrue := chapter(never())
	for _, x := range []struct {
		s    frame.Survey
		part int
		want api.Errno
	}{
		{chapter(), 0, api.OK},
		{chapter(), 100, api.OK},
		{chapter(), 101, api.ErrRange},
		{chapter(), -1, api.ErrRange},
		{chapter(), math.MaxInt, api.ErrRange},
		{chapter(), math.MinInt, api.ErrRange},
		{untrue, 0, api.ErrFail},
		{untrue, 100, api.ErrFail},
		{untrue, 101, api.ErrRange},
		{untrue, -1, api.ErrRange},
	} {
		if v, e := frame.Above(x.s, x.part); e != x.want || (v == 0) != (e != api.OK) {
			t.Errorf("Above of %v, %d: %d, %v, not %v", x.s, x.part, v, e, x.want)
		}
		if l, e := frame.Fewest(x.s, x.part); e != x.want || len(l) != 0 {
			t.Errorf("Fewest of %v, %d: %v, %v, not %v", x.s, x.part, l, e, x.want)
		}
	}
	for _, x := range []struct {
		s     frame.Survey
		place int
		want  api.Errno
	}{
		{chapter(), 0, api.OK},
		{chapter(), 3, api.OK},
		{chapter(), 4, api.ErrRange},
		{chapter(), 8, api.ErrRange},
		{chapter(), 9, api.ErrRange},
		{chapter(), -1, api.ErrRange},
		{chapter(), math.MaxInt, api.ErrRange},
		{chapter(), math.MinInt, api.ErrRange},
		{survey(zeros(3, 3), 0), 8, api.OK},
		{survey(zeros(3, 3), 0), 9, api.ErrRange},
		{untrue, 0, api.ErrFail},
		{untrue, 3, api.ErrFail},
		{untrue, 4, api.ErrRange},
		{untrue, -1, api.ErrRange},
	} {
		if v, e := frame.Hits(x.s, x.place); e != x.want || e != api.OK && v != at(0) {
			t.Errorf("Hits of %v at %d: %v, %v, not %v", x.s, x.place, v, e, x.want)
		}
	}
	if b, e := frame.Bounds(untrue); b != at(0) || e != api.ErrFail {
		t.Errorf("Bounds of %v: %v, %v", untrue, b, e)
	}
	if v, e := frame.Share(untrue, ints(4, 3, 2, 1)); v != 62 || e != api.OK {
		t.Errorf("Share of %v: %v, %v", untrue, v, e)
	}
	if l, e := frame.Leave(untrue); !slices.Equal(l, ints(2)) || e != api.OK {
		t.Errorf("Leave of %v: %v, %v", untrue, l, e)
	}
}

// numbers are all numbers of a survey that can be changed, but for those of its field.
func numbers(s *frame.Survey) []*int {
	list := []*int{&s.Smooth}
	for i := range s.Counts {
		c := &s.Counts[i]
		list = append(list, &c.Place, &c.Hits.Lo, &c.Hits.Hi)
	}
	return list
}

// TestAnyArguments calls everything with numbers of any size: nothing panics, and all calls agree on the error of the survey (P1, R1).
func TestAnyArguments(t *testing.T) {
	odd := ints(math.MinInt, math.MinInt+1, -1, 0, 1, 2, 3, 4, 5, 8, 9, 10, 11, 100, 9999, 10000, math.MaxInt-1, math.MaxInt)
	base := chapter(count(1, to(2, 3)), late(2, to(5, 6)))
	base.Field.Stems[2] = 1
	inField := []func(f *frame.Field) *int{
		func(f *frame.Field) *int { return &f.Rows },
		func(f *frame.Field) *int { return &f.Columns },
	}
	for i := range base.Field.Stems {
		inField = append(inField, func(f *frame.Field) *int { return &f.Stems[i] })
	}
	all := len(numbers(&base))
	for of := range all + len(inField) {
		for _, n := range odd {
			s := clone(base)
			if of < all {
				*numbers(&s)[of] = n
			} else {
				*inField[of-all](&s.Field) = n
			}
			want := checked(s)
			if e := frame.CheckSurvey(s); e != want {
				t.Errorf("CheckSurvey of %v: %v, not %v", s, e, want)
			}
			if want != api.OK {
				wantAll(t, fmt.Sprint(s), s, want)
			}
			for _, m := range odd {
				frame.Hits(s, m)
				frame.Above(s, m)
				frame.Fewest(s, m)
				frame.Share(s, ints(m, n, m, n))
				frame.ProveTruth(s, ints(m, n, n, m))
				frame.Draw(s.Field, lot(m, n, 2))
				frame.Draw(s.Field, lot(n, m, n))
				frame.Foreign(s.Field, lot(m, m, n), s.Counts)
			}
		}
	}
}

// checked is the error of a survey, by a list of ranges with their ends.
func checked(s frame.Survey) api.Errno {
	if len(s.Counts) > 6 {
		return api.ErrLimit
	}
	f := s.Field
	sizes := ints(11, 12, 13, 14, 21, 22, 23, 24, 31, 32, 33, 41, 42)
	if f.Rows < 1 || f.Rows > 4 || f.Columns < 1 || f.Columns > 4 || !slices.Contains(sizes, f.Rows*10+f.Columns) || len(f.Stems) != f.Rows*f.Columns {
		return api.ErrArg
	}
	bad := s.Smooth < 0 || s.Smooth > 9
	for _, n := range f.Stems {
		bad = bad || n < 0 || n > 9
	}
	for _, c := range s.Counts {
		bad = bad || c.Place < 0 || c.Place >= len(f.Stems) || c.Hits.Lo < 0 || c.Hits.Lo > c.Hits.Hi || c.Hits.Hi > 9
	}
	if bad {
		return api.ErrArg
	}
	if len(choices(f)) > 2000 {
		return api.ErrLimit
	}
	return api.OK
}
