package round_test

import (
	"fmt"
	"math"
	"testing"

	"hailstone/api"
	"hailstone/round"
)

// odd are numbers of any size.
func odd() []int {
	return ints(math.MinInt, math.MinInt+1, -1, 0, 1, 2, 3, 4, 5, 6, 9, 10, 29, 30, 31, 100, math.MaxInt-1, math.MaxInt)
}

// roundCase changes the chapter's round, which then has an error, or OK.
type roundCase struct {
	name   string
	change func(r *round.Round)
	want   api.Errno
}

func checkCases(t *testing.T, cases []roundCase) {
	t.Helper()
	for _, x := range cases {
		r := clone(chapter(4))
		x.change(&r)
		if e := round.CheckRound(r); e != x.want {
			t.Errorf("%s: CheckRound of %v: %v, not %v", x.name, r, e, x.want)
		}
		if x.want != api.OK {
			wantAll(t, x.name, r, x.want)
		} else if l, e := round.Leave(r); e != api.OK {
			t.Errorf("%s: Leave of %v: %v, %v", x.name, r, l, e)
		}
	}
}

// wantAll checks that each call returns the error of the round, whatever its other arguments are, and nothing else.
func wantAll(t *testing.T, name string, r round.Round, want api.Errno) {
	t.Helper()
	for _, list := range [][]int{nil, {}, {0}, {0, 1, 2, 3}, {0, 0}, {-1}, {99}} {
		if walk, length, e := round.Walk(r, list); len(walk) != 0 || length != 0 || e != want {
			t.Errorf("%s: Walk of %v: %v, %d, %v, not %v", name, list, walk, length, e, want)
		}
		if round.Prove(r, list) {
			t.Errorf("%s: Prove of %v", name, list)
		}
	}
	for _, n := range ints(0, 1, -1, 99, math.MaxInt) {
		if l, e := round.Days(r, n); len(l) != 0 || e != want {
			t.Errorf("%s: Days of %d: %v, %v, not %v", name, n, l, e, want)
		}
		for _, m := range ints(0, 1, -1) {
			if is, e := round.Together(r, n, m); is || e != want {
				t.Errorf("%s: Together of %d and %d: %v, %v, not %v", name, n, m, is, e, want)
			}
		}
	}
	if plan, e := round.Show(r); len(plan) != 0 || e != want {
		t.Errorf("%s: Show: %v, %v, not %v", name, plan, e, want)
	}
	if n, e := round.Fewest(r); n != 0 || e != want {
		t.Errorf("%s: Fewest: %d, %v, not %v", name, n, e, want)
	}
	if l, e := round.Leave(r); len(l) != 0 || e != want {
		t.Errorf("%s: Leave: %v, %v, not %v", name, l, e, want)
	}
	if l, e := round.Proof(r); len(l) != 0 || e != want {
		t.Errorf("%s: Proof: %v, %v, not %v", name, l, e, want)
	}
	for n := range len(r.Farms) + 1 {
		if round.ProvePlan(r, make([]round.Visit, n)) {
			t.Errorf("%s: ProvePlan of %d visits", name, n)
		}
	}
}

// TestTooMuch has the first row of the errors.
func TestTooMuch(t *testing.T) {
	checkCases(t, []roundCase{
		{"as it is", func(r *round.Round) {}, api.OK},
		{"the smallest one", func(r *round.Round) { *r = round.Round{Adjusters: 1} }, api.OK},
		{"the greatest one", func(r *round.Round) { *r = full() }, api.OK},
		{"three adjusters", func(r *round.Round) { r.Adjusters = 3 }, api.OK},
		{"four adjusters", func(r *round.Round) { r.Adjusters = 4 }, api.ErrLimit},
		{"very many adjusters", func(r *round.Round) { r.Adjusters = math.MaxInt }, api.ErrLimit},
		{"last 5", func(r *round.Round) { r.Last = 5 }, api.OK},
		{"last 6", func(r *round.Round) { r.Last = 6 }, api.ErrLimit},
		{"last very large", func(r *round.Round) { r.Last = math.MaxInt }, api.ErrLimit},
		{"30 miles", func(r *round.Round) { r.Miles = 30 }, api.OK},
		{"31 miles", func(r *round.Round) { r.Miles = 31 }, api.ErrLimit},
		{"very many miles", func(r *round.Round) { r.Miles = math.MaxInt }, api.ErrLimit},
		{"five farms", func(r *round.Round) { *r = with(*r, farm(9, 9, 0, 0)) }, api.OK},
		{"six farms", func(r *round.Round) { *r = with(with(*r, farm(9, 9, 0, 0)), farm(9, 9, 0, 0)) }, api.ErrLimit},
		{"very many farms", func(r *round.Round) { r.Farms = make([]round.Farm, 9999) }, api.ErrLimit},

		{"four adjusters, and nothing else", func(r *round.Round) { *r = round.Round{Adjusters: 4} }, api.ErrLimit},
		{"four adjusters, and last below 0", func(r *round.Round) { r.Adjusters, r.Last = 4, -1 }, api.ErrLimit},
		{"last 6, and no adjusters", func(r *round.Round) { r.Adjusters, r.Last = 0, 6 }, api.ErrLimit},
		{"31 miles, and no adjusters", func(r *round.Round) { r.Adjusters, r.Miles = 0, 31 }, api.ErrLimit},
		{"31 miles, and a home beyond", func(r *round.Round) { r.Home, r.Miles = point(0, 10), 31 }, api.ErrLimit},
		{"six farms, and miles below 0", func(r *round.Round) { r.Farms, r.Miles = make([]round.Farm, 6), -1 }, api.ErrLimit},
		{"six farms, of which one is bad", func(r *round.Round) {
			r.Farms = make([]round.Farm, 6)
			r.Farms[0].At.X = 10
		}, api.ErrLimit},
		{"31 miles, and a bad farm", func(r *round.Round) { r.Miles, r.Farms[3].Days = 31, to(1, 0) }, api.ErrLimit},
	})
}

// TestInvalidRounds has the second row of the errors.
func TestInvalidRounds(t *testing.T) {
	checkCases(t, []roundCase{
		{"nothing", func(r *round.Round) { *r = round.Round{} }, api.ErrArg},
		{"no farms", func(r *round.Round) { r.Farms = nil }, api.OK},
		{"an empty list of farms", func(r *round.Round) { r.Farms = []round.Farm{} }, api.OK},
		{"one adjuster", func(r *round.Round) { r.Adjusters = 1 }, api.OK},
		{"no adjusters", func(r *round.Round) { r.Adjusters = 0 }, api.ErrArg},
		{"no adjusters, nor farms", func(r *round.Round) { r.Adjusters, r.Farms = 0, nil }, api.ErrArg},
		{"adjusters below 0", func(r *round.Round) { r.Adjusters = -1 }, api.ErrArg},
		{"adjusters far below 0", func(r *round.Round) { r.Adjusters = math.MinInt }, api.ErrArg},
		{"last 0", func(r *round.Round) { r.Last, r.Farms = 0, r.Farms[1:2] }, api.OK},
		{"last 0, and farms of the day 1", func(r *round.Round) { r.Last = 0 }, api.ErrArg},
		{"last below 0", func(r *round.Round) { r.Last, r.Farms = -1, nil }, api.ErrArg},
		{"last far below 0", func(r *round.Round) { r.Last, r.Farms = math.MinInt, nil }, api.ErrArg},
		{"no miles", func(r *round.Round) { r.Miles = 0 }, api.OK},
		{"miles below 0", func(r *round.Round) { r.Miles = -1 }, api.ErrArg},
		{"miles below 0, and no farms", func(r *round.Round) { r.Miles, r.Farms = -1, nil }, api.ErrArg},
		{"miles far below 0", func(r *round.Round) { r.Miles = math.MinInt }, api.ErrArg},
		{"the last farm is bad", func(r *round.Round) { *r = with(*r, farm(0, 0, 1, 2)) }, api.ErrArg},
		{"two farms are the same", func(r *round.Round) { *r = with(*r, r.Farms[0]) }, api.OK},
		{"a farm at home", func(r *round.Round) { r.Farms[2].At = r.Home }, api.OK},
		{"a farm that is too far", func(r *round.Round) { r.Farms[2].At = point(9, 9) }, api.OK},
	})
}

// TestInvalidPoints has the second row of the errors too, for each number of a point.
func TestInvalidPoints(t *testing.T) {
	for name, get := range map[string]func(r *round.Round) *int{
		"x of the home":       func(r *round.Round) *int { return &r.Home.X },
		"y of the home":       func(r *round.Round) *int { return &r.Home.Y },
		"x of the first farm": func(r *round.Round) *int { return &r.Farms[0].At.X },
		"y of the first farm": func(r *round.Round) *int { return &r.Farms[0].At.Y },
		"x of the last farm":  func(r *round.Round) *int { return &r.Farms[3].At.X },
		"y of the last farm":  func(r *round.Round) *int { return &r.Farms[3].At.Y },
	} {
		var cases []roundCase
		for _, n := range odd() {
			want := api.ErrArg
			if n >= 0 && n <= 9 {
				want = api.OK
			}
			cases = append(cases, roundCase{fmt.Sprint(name, " is ", n), func(r *round.Round) { *get(r) = n }, want})
		}
		checkCases(t, cases)
	}
}

// TestInvalidDays has the second row of the errors too, for the days of farms.
func TestInvalidDays(t *testing.T) {
	for _, last := range ints(0, 1, 4, 5) {
		for _, n := range ints(0, 3) {
			var cases []roundCase
			for _, low := range odd() {
				for _, high := range odd() {
					want := api.ErrArg
					if low >= 0 && low <= high && high <= last {
						want = api.OK
					}
					cases = append(cases, roundCase{fmt.Sprint("farm ", n, ", days ", low, high, " of ", last), func(r *round.Round) {
						for i := range r.Farms {
							r.Farms[i].Days = to(0, 0)
						}
						r.Last, r.Farms[n].Days = last, to(low, high)
					}, want})
				}
			}
			checkCases(t, cases)
		}
	}
}

// TestErrorsOfWalk has the row of Walk: ErrRange comes before ErrShort.
func TestErrorsOfWalk(t *testing.T) {
	short := chapter(4)
	short.Miles = 1
	for _, x := range []struct {
		name  string
		r     round.Round
		farms []int
		want  api.Errno
	}{
		{"no farms", chapter(4), nil, api.OK},
		{"a farm", chapter(4), ints(3), api.OK},
		{"farms of different days", chapter(4), ints(3, 0), api.OK},
		{"a farm beyond", chapter(4), ints(4), api.ErrRange},
		{"a farm below 0", chapter(4), ints(-1), api.ErrRange},
		{"a farm very large", chapter(4), ints(math.MaxInt), api.ErrRange},
		{"a farm far below 0", chapter(4), ints(math.MinInt), api.ErrRange},
		{"a farm twice", chapter(4), ints(0, 0), api.ErrRange},
		{"a farm twice, with one between", chapter(4), ints(0, 3, 0), api.ErrRange},
		{"a farm of none", round.Round{Adjusters: 1}, ints(0), api.ErrRange},
		{"a farm after the last one beyond", chapter(4), ints(0, 4), api.ErrRange},
		{"a farm very often", chapter(4), make([]int, 9999), api.ErrRange},
		{"too far", chapter(4), ints(1, 2), api.ErrShort},
		{"all farms", chapter(4), ints(0, 1, 2, 3), api.ErrShort},
		{"too far, and a farm beyond", chapter(4), ints(1, 2, 4), api.ErrRange},
		{"too far, and a farm twice", chapter(4), ints(1, 2, 1), api.ErrRange},
		{"few miles", short, ints(0), api.ErrShort},
		{"few miles, and a farm twice", short, ints(0, 0), api.ErrRange},
		{"few miles, and a farm below 0", short, ints(0, -1), api.ErrRange},
		{"few miles, and no farms", short, nil, api.OK},
	} {
		walk, length, e := round.Walk(x.r, x.farms)
		if e != x.want || e != api.OK && (len(walk) != 0 || length != 0) || e == api.OK && len(walk) != len(x.farms) {
			t.Errorf("%s: Walk of %v: %v, %d, %v, not %v", x.name, x.farms, walk, length, e, x.want)
		}
	}
}

// TestErrorsOfDaysAndTogether has their rows: ErrRange comes before ErrShort.
func TestErrorsOfDaysAndTogether(t *testing.T) {
	for _, farms := range ints(0, 1, 2, 3, 4) {
		r, planned := chapter(farms), api.OK
		if farms == 4 {
			planned = api.ErrShort
		}
		is := func(n int) bool { return n >= 0 && n < farms }
		for _, n := range odd() {
			want := api.ErrRange
			if is(n) {
				want = planned
			}
			if l, e := round.Days(r, n); e != want || (e == api.OK) != (len(l) > 0) {
				t.Errorf("Days of %d of %d farms: %v, %v, not %v", n, farms, l, e, want)
			}
			for _, m := range odd() {
				want := api.ErrRange
				if is(n) && is(m) && n != m {
					want = planned
				}
				if is, e := round.Together(r, n, m); e != want || is && e != api.OK {
					t.Errorf("Together of %d and %d of %d farms: %v, %v, not %v", n, m, farms, is, e, want)
				}
			}
		}
	}
}

// TestErrorsWithoutPlan has the rows of Show, Fewest and Proof.
func TestErrorsWithoutPlan(t *testing.T) {
	for _, x := range []struct {
		name                string
		r                   round.Round
		show, fewest, proof api.Errno
	}{
		{"a plan", chapter(3), api.OK, api.OK, api.ErrNone},
		{"no farms", chapter(0), api.OK, api.OK, api.ErrNone},
		{"a plan of more adjusters", chapter(4), api.ErrShort, api.OK, api.OK},
		{"no plan", with(chapter(0), farm(9, 9, 0, 1)), api.ErrShort, api.ErrShort, api.OK},
	} {
		if plan, e := round.Show(x.r); e != x.show || e != api.OK && len(plan) != 0 {
			t.Errorf("%s: Show: %v, %v, not %v", x.name, plan, e, x.show)
		}
		if n, e := round.Fewest(x.r); e != x.fewest || (n > 0) != (e == api.OK) {
			t.Errorf("%s: Fewest: %d, %v, not %v", x.name, n, e, x.fewest)
		}
		if l, e := round.Proof(x.r); e != x.proof || (len(l) > 0) != (e == api.OK) {
			t.Errorf("%s: Proof: %v, %v, not %v", x.name, l, e, x.proof)
		}
		if l, e := round.Leave(x.r); e != api.OK || (len(l) > 0) != (x.show != api.OK) {
			t.Errorf("%s: Leave: %v, %v", x.name, l, e)
		}
	}
}

// TestEmptyLists checks R3: nil is the same as a list without elements.
func TestEmptyLists(t *testing.T) {
	for _, r := range []round.Round{{}, {Adjusters: 1}, {Adjusters: 3, Last: 5, Miles: 30}, {Adjusters: 4}, {Adjusters: 1, Miles: -1}} {
		empty := r
		empty.Farms = []round.Farm{}
		if everything(r) != everything(empty) {
			t.Errorf("nil is not the same as empty: %v", r)
		}
		if round.ProvePlan(r, nil) != round.ProvePlan(empty, []round.Visit{}) || round.Prove(r, nil) != round.Prove(empty, ints()) {
			t.Errorf("ProvePlan, Prove of %v", r)
		}
	}
	walk, length, e := round.Walk(chapter(4), nil)
	again, other, f := round.Walk(chapter(4), ints())
	if len(walk) != 0 || len(again) != 0 || length != 0 || other != 0 || e != api.OK || f != api.OK {
		t.Errorf("Walk of no farms: %v, %d, %v, %v, %d, %v", walk, length, e, again, other, f)
	}
}

// numbers are all numbers of a round.
func numbers(r *round.Round) []*int {
	list := []*int{&r.Adjusters, &r.Last, &r.Miles, &r.Home.X, &r.Home.Y}
	for i := range r.Farms {
		f := &r.Farms[i]
		list = append(list, &f.At.X, &f.At.Y, &f.Days.Lo, &f.Days.Hi)
	}
	return list
}

// TestAnyArguments calls everything with numbers of any size: nothing panics, and all calls agree on the error of the round (P1, R1).
func TestAnyArguments(t *testing.T) {
	base := round.Round{Adjusters: 2, Last: 4, Miles: 14, Home: point(3, 2), Farms: []round.Farm{farm(5, 5, 1, 3), farm(0, 2, 0, 2), farm(9, 3, 2, 4)}}
	for of := range numbers(&base) {
		for _, n := range odd() {
			r := clone(base)
			*numbers(&r)[of] = n
			want := checked(r)
			if e := round.CheckRound(r); e != want {
				t.Errorf("CheckRound of %v: %v, not %v", r, e, want)
			}
			if want != api.OK {
				wantAll(t, fmt.Sprint(r), r, want)
			}
			for _, m := range odd() {
				lists := [][]int{{m}, {m, n}, {0, m, 1}, {n, n, m, 2, 1, 0}}
				for _, l := range lists {
					round.Walk(r, l)
					round.Prove(r, l)
				}
				round.Days(r, m)
				round.Together(r, m, n)
				round.Together(r, 0, m)
				visits := []round.Visit{visit(m, n), visit(n, m), visit(m, m)}
				if is := round.ProvePlan(r, visits); is != (want == api.OK && isPlan(r, visits)) {
					t.Errorf("ProvePlan of %v, %v: %v", r, visits, is)
				}
			}
			everything(r)
		}
	}
}

// checked is the error of a round with at most five farms, by counting what is not so.
func checked(r round.Round) api.Errno {
	if r.Adjusters > 3 || r.Last > 5 || r.Miles > 30 {
		return api.ErrLimit
	}
	bad := 0
	within := func(n, low, high int) {
		if n < low || n > high {
			bad++
		}
	}
	within(r.Adjusters, 1, 3)
	within(r.Last, 0, 5)
	within(r.Miles, 0, 30)
	points := []round.Point{r.Home}
	for _, f := range r.Farms {
		points = append(points, f.At)
		within(f.Days.Lo, 0, r.Last)
		within(f.Days.Hi, 0, r.Last)
		within(f.Days.Hi, f.Days.Lo, r.Last)
	}
	for _, p := range points {
		within(p.X, 0, 9)
		within(p.Y, 0, 9)
	}
	if bad > 0 {
		return api.ErrArg
	}
	return api.OK
}
