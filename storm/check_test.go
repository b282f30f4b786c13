package storm_test

import (
	"fmt"
	"math"
	"slices"
	"testing"

	"hailstone/api"
	"hailstone/storm"
)

// wide has as many numbers in its ranges as the sizes say.
func wide(a, b, half, peak int) storm.Storm {
	return storm.Storm{Wide: 12, High: 12, A: to(12-a, 11), B: to(0, b-1), Half: to(4-half, 3), Peak: to(1, peak)}
}

func TestCheckStormErrors(t *testing.T) {
	for _, x := range []struct {
		name   string
		change func(s *storm.Storm)
		want   api.Errno
	}{
		{"as it is", func(s *storm.Storm) {}, api.OK},
		{"nothing", func(s *storm.Storm) { *s = storm.Storm{} }, api.ErrArg},
		{"the smallest one", func(s *storm.Storm) { *s = storm.Storm{Wide: 2, High: 1, Peak: at(1)} }, api.OK},

		{"wide 12", func(s *storm.Storm) { s.Wide = 12 }, api.OK},
		{"wide 13", func(s *storm.Storm) { s.Wide = 13 }, api.ErrLimit},
		{"wide very large", func(s *storm.Storm) { s.Wide = math.MaxInt }, api.ErrLimit},
		{"wide 2", func(s *storm.Storm) { s.Wide, s.Cards = 2, nil }, api.OK},
		{"wide 1", func(s *storm.Storm) { s.Wide, s.Cards = 1, nil }, api.ErrArg},
		{"wide 0", func(s *storm.Storm) { s.Wide, s.Cards = 0, nil }, api.ErrArg},
		{"wide below 0", func(s *storm.Storm) { s.Wide, s.Cards = -1, nil }, api.ErrArg},
		{"wide far below 0", func(s *storm.Storm) { s.Wide, s.Cards = math.MinInt, nil }, api.ErrArg},
		{"high 12", func(s *storm.Storm) { s.High = 12 }, api.OK},
		{"high 13", func(s *storm.Storm) { s.High = 13 }, api.ErrLimit},
		{"high very large", func(s *storm.Storm) { s.High = math.MaxInt }, api.ErrLimit},
		{"high 1", func(s *storm.Storm) { s.High, s.A, s.B, s.Cards = 1, at(0), at(0), nil }, api.OK},
		{"high 0", func(s *storm.Storm) { s.High, s.A, s.B, s.Cards = 0, at(0), at(0), nil }, api.ErrArg},
		{"high 0, and rows below 0", func(s *storm.Storm) { s.High, s.A, s.B, s.Cards = 0, at(-1), at(-1), nil }, api.ErrArg},
		{"high below 0", func(s *storm.Storm) { s.High, s.A, s.B, s.Cards = -1, at(0), at(0), nil }, api.ErrArg},
		{"high far below 0", func(s *storm.Storm) { s.High, s.Cards = math.MinInt, nil }, api.ErrArg},
		{"6 cards", func(s *storm.Storm) { s.Cards = slices.Repeat([]storm.Card{none(at(0), at(0))}, 6) }, api.OK},
		{"7 cards", func(s *storm.Storm) { s.Cards = slices.Repeat([]storm.Card{none(at(0), at(0))}, 7) }, api.ErrLimit},
		{"no cards", func(s *storm.Storm) { s.Cards = nil }, api.OK},
		{"an empty list of cards", func(s *storm.Storm) { s.Cards = []storm.Card{} }, api.OK},

		{"fall 0", func(s *storm.Storm) { s.Fall = 0 }, api.OK},
		{"fall below 0", func(s *storm.Storm) { s.Fall = -1 }, api.ErrArg},
		{"fall 4", func(s *storm.Storm) { s.Fall = 4 }, api.OK},
		{"fall 5", func(s *storm.Storm) { s.Fall = 5 }, api.ErrArg},
		{"fall very large", func(s *storm.Storm) { s.Fall = math.MaxInt }, api.ErrArg},

		{"A below 0", func(s *storm.Storm) { s.A.Lo = -1 }, api.ErrArg},
		{"A beyond", func(s *storm.Storm) { s.A.Hi = 5 }, api.ErrArg},
		{"A, turned round", func(s *storm.Storm) { s.A = to(2, 1) }, api.ErrArg},
		{"A of the last row", func(s *storm.Storm) { s.A = at(4) }, api.OK},
		{"A of all numbers", func(s *storm.Storm) { s.A = to(math.MinInt, math.MaxInt) }, api.ErrArg},
		{"A, of all numbers, turned round", func(s *storm.Storm) { s.A = to(math.MaxInt, math.MinInt) }, api.ErrArg},
		{"B below 0", func(s *storm.Storm) { s.B.Lo = -1 }, api.ErrArg},
		{"B beyond", func(s *storm.Storm) { s.B.Hi = 5 }, api.ErrArg},
		{"B, turned round", func(s *storm.Storm) { s.B = to(2, 1) }, api.ErrArg},
		{"B of the last row", func(s *storm.Storm) { s.B = at(4) }, api.OK},
		{"B of all numbers", func(s *storm.Storm) { s.B = to(math.MinInt, math.MaxInt) }, api.ErrArg},
		{"half below 0", func(s *storm.Storm) { s.Half.Lo = -1 }, api.ErrArg},
		{"half 0..3", func(s *storm.Storm) { s.Half = to(0, 3) }, api.OK},
		{"half 4", func(s *storm.Storm) { s.Half.Hi = 4 }, api.ErrArg},
		{"half, turned round", func(s *storm.Storm) { s.Half = to(1, 0) }, api.ErrArg},
		{"half of all numbers", func(s *storm.Storm) { s.Half = to(math.MinInt, math.MaxInt) }, api.ErrArg},
		{"peak 0", func(s *storm.Storm) { s.Peak.Lo = 0 }, api.ErrArg},
		{"peak 1..9", func(s *storm.Storm) { s.Peak = to(1, 9) }, api.OK},
		{"peak 10", func(s *storm.Storm) { s.Peak.Hi = 10 }, api.ErrArg},
		{"peak, turned round", func(s *storm.Storm) { s.Peak = to(4, 3) }, api.ErrArg},
		{"peak of all numbers", func(s *storm.Storm) { s.Peak = to(math.MinInt, math.MaxInt) }, api.ErrArg},

		{"x below 0", func(s *storm.Storm) { s.Cards[1].X = to(-1, 4) }, api.ErrArg},
		{"x of all places", func(s *storm.Storm) { s.Cards[1].X = to(0, 4) }, api.OK},
		{"x beyond", func(s *storm.Storm) { s.Cards[1].X = to(4, 5) }, api.ErrArg},
		{"x, turned round", func(s *storm.Storm) { s.Cards[1].X = to(4, 3) }, api.ErrArg},
		{"x of all numbers", func(s *storm.Storm) { s.Cards[1].X = to(math.MinInt, math.MaxInt) }, api.ErrArg},
		{"y below 0", func(s *storm.Storm) { s.Cards[3].Y = to(-1, 4) }, api.ErrArg},
		{"y of all places", func(s *storm.Storm) { s.Cards[3].Y = to(0, 4) }, api.OK},
		{"y beyond", func(s *storm.Storm) { s.Cards[3].Y = to(4, 5) }, api.ErrArg},
		{"y, turned round", func(s *storm.Storm) { s.Cards[3].Y = to(4, 3) }, api.ErrArg},
		{"y of all numbers", func(s *storm.Storm) { s.Cards[3].Y = to(math.MinInt, math.MaxInt) }, api.ErrArg},
		{"x of a wider grid, y of a lower one", func(s *storm.Storm) {
			s.Wide, s.High, s.A, s.B, s.Cards = 6, 3, at(0), at(0), []storm.Card{none(at(5), at(2))}
		}, api.OK},
		{"x of a narrower grid", func(s *storm.Storm) { s.Wide, s.Cards = 3, []storm.Card{none(at(3), at(4))} }, api.ErrArg},
		{"y of a lower grid", func(s *storm.Storm) { s.High, s.A, s.B, s.Cards = 3, at(0), at(0), []storm.Card{none(at(4), at(3))} }, api.ErrArg},
		{"size 0..9", func(s *storm.Storm) { s.Cards[0].Size = to(0, 9) }, api.OK},
		{"size 0", func(s *storm.Storm) { s.Cards[0].Size = at(0) }, api.OK},
		{"size below 0", func(s *storm.Storm) { s.Cards[0].Size = to(-1, 3) }, api.ErrArg},
		{"size 10", func(s *storm.Storm) { s.Cards[0].Size = to(3, 10) }, api.ErrArg},
		{"size, turned round", func(s *storm.Storm) { s.Cards[0].Size = to(3, 2) }, api.ErrArg},
		{"size of all numbers", func(s *storm.Storm) { s.Cards[0].Size = to(math.MinInt, math.MaxInt) }, api.ErrArg},
		{"no hail of a size", func(s *storm.Storm) { s.Cards[2].Size = at(1) }, api.ErrArg},
		{"no hail of the size 0..1", func(s *storm.Storm) { s.Cards[2].Size = to(0, 1) }, api.ErrArg},
		{"no hail of the size -1..0", func(s *storm.Storm) { s.Cards[2].Size = to(-1, 0) }, api.ErrArg},
		{"no hail of the size 0..-1", func(s *storm.Storm) { s.Cards[2].Size = to(0, -1) }, api.ErrArg},

		{"2000 choices", func(s *storm.Storm) { *s = wide(10, 10, 4, 5) }, api.OK},
		{"2016 choices", func(s *storm.Storm) { *s = wide(8, 7, 4, 9) }, api.ErrLimit},
		{"2016 choices in another way", func(s *storm.Storm) { *s = wide(8, 12, 3, 7) }, api.ErrLimit},
		{"all choices", func(s *storm.Storm) { *s = wide(12, 12, 4, 9) }, api.ErrLimit},

		{"wide 13, and nothing else", func(s *storm.Storm) { *s = storm.Storm{Wide: 13} }, api.ErrLimit},
		{"high 13, and a bad wide", func(s *storm.Storm) { s.High, s.Wide = 13, 1 }, api.ErrLimit},
		{"7 cards, and a bad one", func(s *storm.Storm) { s.Cards = make([]storm.Card, 7); s.Cards[0].X = at(9) }, api.ErrLimit},
		{"7 cards, and no grid", func(s *storm.Storm) { *s = storm.Storm{Cards: make([]storm.Card, 7)} }, api.ErrLimit},
		{"too many choices, and a bad fall", func(s *storm.Storm) { *s = wide(12, 12, 4, 9); s.Fall = 5 }, api.ErrArg},
		{"too many choices, and a bad last card", func(s *storm.Storm) {
			*s = with(wide(12, 12, 4, 9), none(at(0), at(0)), none(at(0), at(12)))
		}, api.ErrArg},
	} {
		s := clone(chapter(4))
		x.change(&s)
		if e := storm.CheckStorm(s); e != x.want {
			t.Errorf("%s: CheckStorm of %v: %v, not %v", x.name, s, e, x.want)
		}
		if x.want != api.OK {
			wantAll(t, x.name, s, x.want)
		} else if _, e := storm.Leave(s); e != api.OK {
			t.Errorf("%s: Leave of %v: %v", x.name, s, e)
		}
	}
}

// wantAll checks that each call returns the error of the storm, whatever its other arguments are, and nothing else.
func wantAll(t *testing.T, name string, s storm.Storm, want api.Errno) {
	t.Helper()
	for _, n := range ints(0, -1, 99) {
		r := rect(to(0, n), at(n))
		if v, e := storm.Verdict(s, r); v != 0 || e != want {
			t.Errorf("%s: Verdict: %v, %v", name, v, e)
		}
		for _, in := range []bool{true, false} {
			if v, e := storm.Show(s, r, in); v != (storm.Truth{}) || e != want {
				t.Errorf("%s: Show: %v, %v", name, v, e)
			}
		}
		if v, e := storm.Sizes(s, n, n); v != at(0) || e != want {
			t.Errorf("%s: Sizes: %v, %v", name, v, e)
		}
	}
	if b, e := storm.Bounds(s); !same(b, storm.Storm{}) || e != want {
		t.Errorf("%s: Bounds: %v, %v", name, b, e)
	}
	if x, y, worst, e := storm.Best(s); x != 0 || y != 0 || worst != 0 || e != want {
		t.Errorf("%s: Best: %v, %v, %v, %v", name, x, y, worst, e)
	}
	if v, e := storm.First(s); v != 0 || e != want {
		t.Errorf("%s: First: %v, %v", name, v, e)
	}
	if l, e := storm.Leave(s); len(l) != 0 || e != want {
		t.Errorf("%s: Leave: %v, %v", name, l, e)
	}
	if l, e := storm.Clash(s); len(l) != 0 || e != want {
		t.Errorf("%s: Clash: %v, %v", name, l, e)
	}
	for _, tr := range []storm.Truth{{}, {A: s.A.Lo, B: s.B.Lo, Half: s.Half.Lo, Peak: s.Peak.Lo}, {A: 1, B: 2, Half: 1, Peak: 3}} {
		if storm.ProveTruth(s, tr) {
			t.Errorf("%s: ProveTruth of %v", name, tr)
		}
	}
}

func same(a, b storm.Storm) bool {
	return slices.Equal(a.Cards, b.Cards) && fmt.Sprint(drop(a, ints(0, 1, 2, 3, 4, 5)...)) == fmt.Sprint(drop(b, ints(0, 1, 2, 3, 4, 5)...))
}

func TestErrorsOfRectangles(t *testing.T) {
	low := storm.Storm{Wide: 6, High: 3, Peak: at(1), A: to(0, 2)}
	for _, x := range []struct {
		name string
		s    storm.Storm
		r    storm.Rect
		want api.Errno
	}{
		{"all of the grid", chapter(3), rect(to(0, 4), to(0, 4)), api.OK},
		{"the first place", chapter(3), rect(at(0), at(0)), api.OK},
		{"the last place", chapter(3), rect(at(4), at(4)), api.OK},
		{"the last place of a low grid", low, rect(at(5), at(2)), api.OK},
		{"x of a low grid", low, rect(at(2), at(5)), api.ErrRange},
		{"x beyond", chapter(3), rect(to(0, 5), at(0)), api.ErrRange},
		{"x below 0", chapter(3), rect(to(-1, 0), at(0)), api.ErrRange},
		{"x, turned round", chapter(3), rect(to(1, 0), at(0)), api.ErrRange},
		{"x, turned round in the grid", chapter(3), rect(to(4, 0), to(0, 4)), api.ErrRange},
		{"x all beyond", chapter(3), rect(at(5), at(0)), api.ErrRange},
		{"x of all numbers", chapter(3), rect(to(math.MinInt, math.MaxInt), at(0)), api.ErrRange},
		{"y beyond", chapter(3), rect(at(0), to(0, 5)), api.ErrRange},
		{"y below 0", chapter(3), rect(at(0), to(-1, 0)), api.ErrRange},
		{"y, turned round", chapter(3), rect(at(0), to(1, 0)), api.ErrRange},
		{"y all below 0", chapter(3), rect(at(0), at(-1)), api.ErrRange},
		{"y of all numbers", chapter(3), rect(at(0), to(math.MinInt, math.MaxInt)), api.ErrRange},
		{"y of all numbers, turned round", chapter(3), rect(at(0), to(math.MaxInt, math.MinInt)), api.ErrRange},
		{"no truth", chapter(4), rect(at(0), at(0)), api.ErrFalse},
		{"no truth, all of the grid", untrue(), rect(to(0, 4), to(0, 4)), api.ErrFalse},
		{"no truth, and x beyond", untrue(), rect(at(5), at(0)), api.ErrRange},
		{"no truth, and y turned round", chapter(4), rect(at(0), to(1, 0)), api.ErrRange},
	} {
		if v, e := storm.Verdict(x.s, x.r); e != x.want || (v == 0) != (e != api.OK) {
			t.Errorf("%s: Verdict: %v, %v, not %v", x.name, v, e, x.want)
		}
		shown := 0
		for _, in := range []bool{true, false} {
			v, e := storm.Show(x.s, x.r, in)
			if e != api.OK && v != (storm.Truth{}) {
				t.Errorf("%s: Show: %v, %v", x.name, v, e)
			}
			if e == api.OK {
				shown++
			} else if e != x.want && !(x.want == api.OK && e == api.ErrNone) {
				t.Errorf("%s: Show: %v, not %v", x.name, e, x.want)
			}
		}
		if (shown > 0) != (x.want == api.OK) {
			t.Errorf("%s: %d truths shown", x.name, shown)
		}
		if x.r.X.Lo == x.r.X.Hi && x.r.Y.Lo == x.r.Y.Hi {
			if v, e := storm.Sizes(x.s, x.r.X.Lo, x.r.Y.Lo); e != x.want || e != api.OK && v != at(0) {
				t.Errorf("%s: Sizes: %v, %v, not %v", x.name, v, e, x.want)
			}
		}
	}
}

func TestErrorsOfPlaces(t *testing.T) {
	for _, x := range []struct {
		s    storm.Storm
		x, y int
		want api.Errno
	}{
		{chapter(3), 0, 0, api.OK},
		{chapter(3), 4, 4, api.OK},
		{chapter(3), 5, 4, api.ErrRange},
		{chapter(3), 4, 5, api.ErrRange},
		{chapter(3), -1, 4, api.ErrRange},
		{chapter(3), 4, -1, api.ErrRange},
		{chapter(3), math.MaxInt, 0, api.ErrRange},
		{chapter(3), 0, math.MinInt, api.ErrRange},
		{chapter(4), 4, 4, api.ErrFalse},
		{chapter(4), 5, 4, api.ErrRange},
		{chapter(4), 4, -1, api.ErrRange},
	} {
		if v, e := storm.Sizes(x.s, x.x, x.y); e != x.want || e != api.OK && v != at(0) {
			t.Errorf("Sizes of %v at %d, %d: %v, %v, not %v", x.s, x.x, x.y, v, e, x.want)
		}
	}
}

// TestErrorsWithoutAndWithTruth has the rows ErrFalse and ErrNone.
func TestErrorsWithoutAndWithTruth(t *testing.T) {
	for _, s := range []storm.Storm{chapter(4), untrue(), single(hail(at(0), at(0), at(3)), never())} {
		if b, e := storm.Bounds(s); !same(b, storm.Storm{}) || e != api.ErrFalse {
			t.Errorf("Bounds of %v: %v, %v", s, b, e)
		}
		if x, y, worst, e := storm.Best(s); x != 0 || y != 0 || worst != 0 || e != api.ErrFalse {
			t.Errorf("Best of %v: %d, %d, %d, %v", s, x, y, worst, e)
		}
		if _, e := storm.First(s); e != api.OK {
			t.Errorf("First of %v: %v", s, e)
		}
		if _, e := storm.Clash(s); e != api.OK {
			t.Errorf("Clash of %v: %v", s, e)
		}
	}
	for _, s := range []storm.Storm{chapter(0), chapter(3), single(), single(hail(at(0), at(0), at(3))), {Wide: 2, High: 1, Peak: at(1)}} {
		if n, e := storm.First(s); n != 0 || e != api.ErrNone {
			t.Errorf("First of %v: %d, %v", s, n, e)
		}
		if l, e := storm.Clash(s); len(l) != 0 || e != api.ErrNone {
			t.Errorf("Clash of %v: %v, %v", s, l, e)
		}
		if l, e := storm.Leave(s); len(l) != 0 || e != api.OK {
			t.Errorf("Leave of %v: %v, %v", s, l, e)
		}
	}
	for _, x := range []struct {
		r    storm.Rect
		in   bool
		want api.Errno
	}{
		{rect(at(0), at(0)), true, api.OK},
		{rect(at(0), at(0)), false, api.ErrNone},
		{rect(at(1), at(0)), true, api.ErrNone},
		{rect(at(1), at(0)), false, api.OK},
		{rect(to(0, 1), at(0)), true, api.OK},
		{rect(to(0, 1), at(0)), false, api.OK},
		{rect(to(0, 2), at(1)), false, api.ErrNone},
		{rect(to(1, 4), at(0)), true, api.ErrNone},
	} {
		v, e := storm.Show(single(), x.r, x.in)
		if e != x.want || (e == api.OK) != (v == storm.Truth{A: 1, B: 3, Half: 1, Peak: 5}) || e != api.OK && v != (storm.Truth{}) {
			t.Errorf("Show of %v, %v: %v, %v", x.r, x.in, v, e)
		}
	}
}

// TestProveTruthErrors has what is not a truth, although nothing is wrong with the cards, or the cards are wrong.
func TestProveTruthErrors(t *testing.T) {
	s := storm.Storm{Wide: 5, High: 5, Fall: 1, A: to(1, 2), B: to(2, 3), Half: to(1, 2), Peak: to(3, 4)}
	for _, x := range []struct {
		s    storm.Storm
		t    storm.Truth
		want bool
	}{
		{s, storm.Truth{A: 1, B: 2, Half: 1, Peak: 3}, true},
		{s, storm.Truth{A: 2, B: 3, Half: 2, Peak: 4}, true},
		{s, storm.Truth{A: 0, B: 2, Half: 1, Peak: 3}, false},
		{s, storm.Truth{A: 3, B: 2, Half: 1, Peak: 3}, false},
		{s, storm.Truth{A: 1, B: 1, Half: 1, Peak: 3}, false},
		{s, storm.Truth{A: 1, B: 4, Half: 1, Peak: 3}, false},
		{s, storm.Truth{A: 1, B: 2, Half: 0, Peak: 3}, false},
		{s, storm.Truth{A: 1, B: 2, Half: 3, Peak: 3}, false},
		{s, storm.Truth{A: 1, B: 2, Half: 1, Peak: 2}, false},
		{s, storm.Truth{A: 1, B: 2, Half: 1, Peak: 5}, false},
		{s, storm.Truth{A: math.MinInt, B: 2, Half: 1, Peak: 3}, false},
		{s, storm.Truth{A: 1, B: math.MaxInt, Half: 1, Peak: 3}, false},
		{s, storm.Truth{A: 1, B: 2, Half: math.MaxInt, Peak: 3}, false},
		{s, storm.Truth{A: 1, B: 2, Half: 1, Peak: math.MinInt}, false},
		{s, storm.Truth{}, false},
		{chapter(3), storm.Truth{A: 1, B: 2, Half: 1, Peak: 3}, true},
		{chapter(3), storm.Truth{A: 1, B: 3, Half: 1, Peak: 3}, false},
		{chapter(4), storm.Truth{A: 1, B: 2, Half: 1, Peak: 3}, false},
		{wide(10, 10, 4, 5), storm.Truth{A: 11, B: 0, Half: 0, Peak: 5}, true},
		{wide(8, 7, 4, 9), storm.Truth{A: 11, B: 0, Half: 0, Peak: 5}, false},
		{storm.Storm{}, storm.Truth{}, false},
	} {
		if got := storm.ProveTruth(x.s, x.t); got != x.want {
			t.Errorf("ProveTruth of %v, %v: %v", x.s, x.t, got)
		}
	}
}

// TestAnyArguments calls everything with numbers of any size: nothing panics, and all calls agree on the error of the storm (P1, R1).
func TestAnyArguments(t *testing.T) {
	odd := ints(math.MinInt, math.MinInt+1, -1, 0, 1, 2, 3, 4, 5, 9, 10, 12, 13, math.MaxInt-1, math.MaxInt)
	places := []func(s *storm.Storm) *int{
		func(s *storm.Storm) *int { return &s.Wide },
		func(s *storm.Storm) *int { return &s.High },
		func(s *storm.Storm) *int { return &s.Fall },
	}
	ranges := []func(s *storm.Storm) *storm.Range{
		func(s *storm.Storm) *storm.Range { return &s.A },
		func(s *storm.Storm) *storm.Range { return &s.B },
		func(s *storm.Storm) *storm.Range { return &s.Half },
		func(s *storm.Storm) *storm.Range { return &s.Peak },
	}
	for i := range 4 {
		ranges = append(ranges,
			func(s *storm.Storm) *storm.Range { return &s.Cards[i].X },
			func(s *storm.Storm) *storm.Range { return &s.Cards[i].Y },
			func(s *storm.Storm) *storm.Range { return &s.Cards[i].Size },
		)
	}
	for _, of := range ranges {
		places = append(places, func(s *storm.Storm) *int { return &of(s).Lo }, func(s *storm.Storm) *int { return &of(s).Hi })
	}
	for _, of := range places {
		for _, n := range odd {
			s := clone(chapter(4))
			*of(&s) = n
			want := checked(s)
			if e := storm.CheckStorm(s); e != want {
				t.Errorf("CheckStorm of %v: %v, not %v", s, e, want)
			}
			if want != api.OK {
				wantAll(t, fmt.Sprint(s), s, want)
			}
			for _, m := range odd {
				storm.Verdict(s, rect(to(m, n), to(n, m)))
				storm.Show(s, rect(at(m), to(n, m)), m < n)
				storm.Sizes(s, m, n)
				storm.ProveTruth(s, storm.Truth{A: m, B: n, Half: n, Peak: m})
			}
		}
	}
}

// checked is the error of a storm, by a list of ranges with their ends.
func checked(s storm.Storm) api.Errno {
	if s.Wide > 12 || s.High > 12 || len(s.Cards) > 6 {
		return api.ErrLimit
	}
	if s.Wide < 2 || s.High < 1 || s.Fall < 0 || s.Fall > 4 {
		return api.ErrArg
	}
	type ends struct {
		storm.Range
		low, high int
	}
	list := []ends{{s.A, 0, s.High - 1}, {s.B, 0, s.High - 1}, {s.Half, 0, 3}, {s.Peak, 1, 9}}
	for _, c := range s.Cards {
		list = append(list, ends{c.X, 0, s.Wide - 1}, ends{c.Y, 0, s.High - 1})
		if c.Hail {
			list = append(list, ends{c.Size, 0, 9})
		} else {
			list = append(list, ends{c.Size, 0, 0})
		}
	}
	for _, x := range list {
		if x.Lo > x.Hi || x.Lo < x.low || x.Hi > x.high {
			return api.ErrArg
		}
	}
	if len(choices(storm.Storm{A: s.A, B: s.B, Half: s.Half, Peak: s.Peak})) > 2000 {
		return api.ErrLimit
	}
	return api.OK
}
