package round_test

import (
	"slices"
	"testing"

	"hailstone/api"
	"hailstone/round"
)

// TestChapter has the chapter's examples, and the document's.
func TestChapter(t *testing.T) {
	r := chapter(4)
	for _, x := range []struct {
		farms  []int
		length int
		e      api.Errno
	}{{ints(0, 1), 12, api.OK}, {ints(0, 3), 10, api.OK}, {ints(1, 2), 0, api.ErrShort}} {
		walk, length, e := round.Walk(r, x.farms)
		if length != x.length || e != x.e || (len(walk) == 2) != (e == api.OK) {
			t.Errorf("Walk of %v: %v, %d, %v", x.farms, walk, length, e)
		}
	}
	r.Miles = 18
	if walk, length, e := round.Walk(r, ints(1, 2)); length != 18 || e != api.OK {
		t.Errorf("Walk with 18 miles: %v, %d, %v", walk, length, e)
	}
	r.Miles = 17
	if walk, length, e := round.Walk(r, ints(1, 2)); len(walk) != 0 || length != 0 || e != api.ErrShort {
		t.Errorf("Walk with 17 miles: %v, %d, %v", walk, length, e)
	}
	if plan, e := round.Show(chapter(3)); !slices.Equal(plan, []round.Visit{visit(0, 0), visit(0, 0), visit(0, 1)}) || e != api.OK {
		t.Errorf("Show: %v, %v", plan, e)
	}
	for n, want := range map[int][]int{0: ints(0), 2: ints(1)} {
		if l, e := round.Days(chapter(3), n); !slices.Equal(l, want) || e != api.OK {
			t.Errorf("Days of %d: %v, %v", n, l, e)
		}
	}
	for n, want := range map[int]bool{1: true, 2: false} {
		if is, e := round.Together(chapter(3), 0, n); is != want || e != api.OK {
			t.Errorf("Together of 0 and %d: %v, %v", n, is, e)
		}
	}
	if n, e := round.Fewest(chapter(4)); n != 2 || e != api.OK {
		t.Errorf("Fewest: %d, %v", n, e)
	}
	if l, e := round.Leave(chapter(4)); !slices.Equal(l, ints(1)) || e != api.OK {
		t.Errorf("Leave: %v, %v", l, e)
	}
	if l, e := round.Proof(chapter(4)); !slices.Equal(l, ints(1, 2, 3)) || e != api.OK {
		t.Errorf("Proof: %v, %v", l, e)
	}
}

func TestWalk(t *testing.T) {
	// A square around the home, whose walks along the sides are shorter than those across it.
	square := round.Round{Adjusters: 1, Miles: 30, Home: point(4, 4), Farms: []round.Farm{
		farm(2, 2, 0, 0), farm(6, 6, 0, 0), farm(6, 2, 0, 0), farm(2, 6, 0, 0), farm(4, 4, 0, 0),
	}}
	line := round.Round{Adjusters: 1, Last: 5, Miles: 18, Home: point(0, 9), Farms: []round.Farm{
		farm(9, 9, 0, 0), farm(3, 9, 1, 2), farm(6, 9, 5, 5), farm(3, 9, 4, 4), farm(0, 9, 3, 3),
	}}
	for _, x := range []struct {
		name   string
		r      round.Round
		farms  []int
		length int
	}{
		{"no farms", square, nil, 0},
		{"an empty list", square, ints(), 0},
		{"no farms at all", round.Round{Adjusters: 1}, nil, 0},
		{"at home", square, ints(4), 0},
		{"there and back", square, ints(0), 8},
		{"across the home", square, ints(0, 1), 16},
		{"along a side", square, ints(0, 2), 12},
		{"three corners", square, ints(0, 1, 2), 16},
		{"all corners", square, ints(0, 1, 2, 3), 20},
		{"all corners and the home", square, ints(4, 0, 1, 2, 3), 20},
		{"in another order", square, ints(3, 1, 4, 2, 0), 20},
		{"a line, on different days", line, ints(0, 1, 2, 3, 4), 18},
		{"the nearer part of a line", line, ints(2, 3), 12},
		{"two at the same point", line, ints(1, 3), 6},
		{"from corner to corner", round.Round{Adjusters: 1, Miles: 30, Farms: []round.Farm{farm(9, 6, 0, 0)}}, ints(0), 30},
	} {
		walk, length, e := round.Walk(x.r, x.farms)
		if length != x.length || e != api.OK {
			t.Errorf("%s: Walk of %v: %v, %d, %v, not %d", x.name, x.farms, walk, length, e, x.length)
			continue
		}
		if lengthOf(x.r, walk) != length || len(walk) != len(x.farms) || !subset(x.farms, walk) {
			t.Errorf("%s: Walk of %v: %v, %d", x.name, x.farms, walk, length)
		}
	}
}

// TestMiles checks that a set can be walked if a walk has just so many miles, and not if it has one more.
func TestMiles(t *testing.T) {
	r := round.Round{Adjusters: 1, Home: point(1, 8), Farms: []round.Farm{farm(3, 8, 0, 0), farm(1, 5, 0, 0)}}
	for _, x := range []struct {
		farms []int
		least int
	}{{nil, 0}, {ints(0), 4}, {ints(1), 6}, {ints(0, 1), 10}} {
		for miles := range api.MaxRoundMiles + 1 {
			r.Miles = miles
			want := api.ErrShort
			if miles >= x.least {
				want = api.OK
			}
			if walk, length, e := round.Walk(r, x.farms); e != want || e == api.OK && length != x.least || e != api.OK && length != 0 {
				t.Errorf("Walk of %v with %d miles: %v, %d, %v", x.farms, miles, walk, length, e)
			}
		}
	}
}

// three has farms that two adjusters can visit on the only day, but not one alone.
func three(adjusters int) round.Round {
	return round.Round{Adjusters: adjusters, Miles: 12, Home: point(5, 5), Farms: []round.Farm{
		farm(5, 8, 0, 0), farm(8, 8, 0, 0), farm(2, 5, 0, 0),
	}}
}

func TestShowAndProvePlan(t *testing.T) {
	nearby := round.Round{Adjusters: 1, Farms: []round.Farm{farm(0, 0, 0, 0), farm(0, 0, 0, 0)}}
	for _, x := range []struct {
		name string
		r    round.Round
		want bool
	}{
		{"no farms", round.Round{Adjusters: 1}, true},
		{"an empty list of farms", round.Round{Adjusters: 3, Farms: []round.Farm{}}, true},
		{"no miles, at home", nearby, true},
		{"no miles, not at home", with(nearby, farm(0, 1, 0, 0)), false},
		{"one adjuster", three(1), false},
		{"two adjusters", three(2), true},
		{"three adjusters", three(3), true},
		{"the chapter's three", chapter(3), true},
		{"the chapter's four", chapter(4), false},
		{"the greatest one", full(), true},
	} {
		plan, e := round.Show(x.r)
		if !x.want {
			if len(plan) != 0 || e != api.ErrShort {
				t.Errorf("%s: Show: %v, %v", x.name, plan, e)
			}
			continue
		}
		if e != api.OK || !round.ProvePlan(x.r, plan) || len(plan) != len(x.r.Farms) {
			t.Errorf("%s: Show: %v, %v", x.name, plan, e)
		}
	}
}

func TestProvePlan(t *testing.T) {
	wide := with(chapter(1), farm(1, 1, 0, 1))
	wide.Adjusters = 2
	invalid := wide
	invalid.Miles = -1
	for _, x := range []struct {
		name string
		r    round.Round
		l    []round.Visit
		want bool
	}{
		{"nothing of nothing", round.Round{Adjusters: 1}, nil, true},
		{"an empty list of nothing", round.Round{Adjusters: 1}, []round.Visit{}, true},
		{"one of nothing", round.Round{Adjusters: 1}, []round.Visit{visit(0, 0)}, false},
		{"nothing of an invalid round", round.Round{}, nil, false},
		{"an invalid round", invalid, []round.Visit{visit(0, 0), visit(0, 1)}, false},
		{"the only plan", chapter(3), []round.Visit{visit(0, 0), visit(0, 0), visit(0, 1)}, true},
		{"two that cannot be walked", chapter(3), []round.Visit{visit(0, 1), visit(0, 0), visit(0, 1)}, false},
		{"three that cannot be walked", chapter(3), []round.Visit{visit(0, 0), visit(0, 0), visit(0, 0)}, false},
		{"a day that is not of the farm", chapter(3), []round.Visit{visit(0, 0), visit(0, 1), visit(0, 1)}, false},
		{"too few", chapter(3), []round.Visit{visit(0, 0), visit(0, 0)}, false},
		{"too many", chapter(3), []round.Visit{visit(0, 0), visit(0, 0), visit(0, 1), visit(0, 1)}, false},
		{"none", chapter(3), nil, false},
		{"far too many", chapter(3), make([]round.Visit, 999), false},
		{"both together", wide, []round.Visit{visit(0, 1), visit(0, 1)}, true},
		{"the last adjuster alone", wide, []round.Visit{visit(1, 1), visit(1, 1)}, true},
		{"the last adjuster first", wide, []round.Visit{visit(1, 0), visit(0, 0)}, true},
		{"on two days", wide, []round.Visit{visit(1, 1), visit(1, 0)}, true},
		{"an adjuster beyond", wide, []round.Visit{visit(0, 0), visit(2, 0)}, false},
		{"an adjuster below 0", wide, []round.Visit{visit(-1, 0), visit(0, 0)}, false},
		{"a day beyond", wide, []round.Visit{visit(0, 2), visit(0, 0)}, false},
		{"a day below 0", wide, []round.Visit{visit(0, 0), visit(0, -1)}, false},
	} {
		if is := round.ProvePlan(x.r, x.l); is != x.want {
			t.Errorf("%s: ProvePlan of %v, %v: %v", x.name, x.r, x.l, is)
		}
	}
}

// far is a farm that cannot be walked to from 0, 0 with 30 miles.
func far() round.Farm { return farm(9, 9, 0, 0) }

func TestFewest(t *testing.T) {
	corners := []round.Farm{farm(9, 0, 0, 0), farm(0, 9, 0, 0), farm(9, 9, 0, 0)}
	centre := round.Round{Adjusters: 1, Miles: 20, Home: point(4, 4), Farms: append(corners, farm(0, 0, 0, 0))}
	for _, x := range []struct {
		name string
		r    round.Round
		want int
		e    api.Errno
	}{
		{"no farms", round.Round{Adjusters: 3}, 1, api.OK},
		{"one is enough", chapter(3), 1, api.OK},
		{"two", three(1), 2, api.OK},
		{"two, where there are two", three(2), 2, api.OK},
		{"two, where there are three", three(3), 2, api.OK},
		{"three", only(centre, 0, 1, 2), 3, api.OK},
		{"more than three", centre, 0, api.ErrShort},
		{"no number", round.Round{Adjusters: 1, Miles: 30, Farms: []round.Farm{far()}}, 0, api.ErrShort},
		{"no number, where there are three", round.Round{Adjusters: 3, Miles: 30, Farms: []round.Farm{far()}}, 0, api.ErrShort},
		{"the greatest one", full(), 1, api.OK},
	} {
		if n, e := round.Fewest(x.r); n != x.want || e != x.e {
			t.Errorf("%s: Fewest: %d, %v, not %d, %v", x.name, n, e, x.want, x.e)
		}
	}
}

func TestDaysAndTogether(t *testing.T) {
	// The last farm can be visited together with the other ones only, which are too far from each other.
	between := round.Round{Adjusters: 1, Last: 5, Miles: 18, Farms: []round.Farm{
		farm(9, 0, 2, 4), farm(0, 9, 4, 5), farm(5, 0, 0, 5), farm(0, 5, 4, 4),
	}}
	same := round.Round{Adjusters: 3, Last: 1, Miles: 2, Farms: []round.Farm{farm(1, 0, 0, 1), farm(0, 1, 0, 1)}}
	for _, x := range []struct {
		name     string
		r        round.Round
		days     [][]int
		together [][]int
	}{
		{"one farm", only(between, 0), [][]int{ints(2, 3, 4)}, nil},
		{"one farm on all days", only(between, 2), [][]int{ints(0, 1, 2, 3, 4, 5)}, nil},
		{"two that cannot be together", only(between, 0, 1), [][]int{ints(2, 3, 4), ints(4, 5)}, nil},
		{"each other's days", only(between, 1, 3), [][]int{ints(4, 5), ints(4)}, [][]int{ints(0, 1)}},
		{"all four", between, [][]int{ints(2, 3), ints(4, 5), ints(0, 1, 2, 3, 5), ints(4)}, [][]int{ints(0, 2), ints(1, 3)}},
		{"two adjusters on the same day are not together", same, [][]int{ints(0, 1), ints(0, 1)}, nil},
		{"two of three", three(2), [][]int{ints(0), ints(0), ints(0)}, [][]int{ints(0, 1), ints(0, 2)}},
	} {
		for n, want := range x.days {
			if l, e := round.Days(x.r, n); !slices.Equal(l, want) || e != api.OK {
				t.Errorf("%s: Days of %d: %v, %v, not %v", x.name, n, l, e, want)
			}
			for m := range x.days {
				if n == m {
					continue
				}
				want := slices.ContainsFunc(x.together, func(l []int) bool { return l[0] == min(n, m) && l[1] == max(n, m) })
				if is, e := round.Together(x.r, n, m); is != want || e != api.OK {
					t.Errorf("%s: Together of %d and %d: %v, %v, not %v", x.name, n, m, is, e, want)
				}
			}
		}
	}
}

func TestLeaveProofProve(t *testing.T) {
	// Farms that must all be visited on the same day, and can only be visited alone.
	apart := round.Round{Adjusters: 1, Miles: 18, Home: point(4, 4), Farms: []round.Farm{
		farm(0, 0, 0, 0), farm(9, 8, 0, 0), farm(0, 8, 0, 0), farm(8, 0, 0, 0), farm(4, 4, 0, 0),
	}}
	two := apart
	two.Adjusters = 2
	some := round.Round{Adjusters: 1, Miles: 30, Farms: []round.Farm{farm(1, 1, 0, 0), far(), farm(2, 2, 0, 0), far(), farm(8, 8, 0, 0)}}
	for _, x := range []struct {
		name         string
		r            round.Round
		leave, proof []int
	}{
		{"no farms", round.Round{Adjusters: 1}, nil, nil},
		{"a plan", chapter(3), nil, nil},
		{"the chapter's", chapter(4), ints(1), ints(1, 2, 3)},
		{"one of two", only(apart, 0, 1), ints(0), ints(0, 1)},
		{"two of three", only(apart, 0, 1, 2), ints(0, 1), ints(0, 1)},
		{"three of four", apart, ints(0, 1, 2), ints(0, 1)},
		{"with two adjusters", only(two, 0, 1), nil, nil},
		{"one of three with two adjusters", only(two, 0, 1, 2), ints(0), ints(0, 1, 2)},
		{"two of four with two adjusters", two, ints(0, 1), ints(0, 1, 2)},
		{"the last one alone", only(some, 0, 2, 3), ints(2), ints(2)},
		{"some are too far", some, ints(1, 3, 4), ints(1)},
		{"all are too far", only(some, 1, 3, 4), ints(0, 1, 2), ints(0)},
		{"the greatest one", full(), nil, nil},
	} {
		if l, e := round.Leave(x.r); !slices.Equal(l, x.leave) || e != api.OK {
			t.Errorf("%s: Leave: %v, %v, not %v", x.name, l, e, x.leave)
		}
		want := api.OK
		if len(x.proof) == 0 {
			want = api.ErrNone
		}
		if l, e := round.Proof(x.r); !slices.Equal(l, x.proof) || e != want {
			t.Errorf("%s: Proof: %v, %v, not %v", x.name, l, e, x.proof)
		}
		if is := round.Prove(x.r, x.proof); is != (want == api.OK) {
			t.Errorf("%s: Prove of %v: %v", x.name, x.proof, is)
		}
		if is := round.Prove(x.r, but(x.r)); is != (want == api.OK) {
			t.Errorf("%s: Prove of all farms: %v", x.name, is)
		}
	}
}

func TestProve(t *testing.T) {
	invalid := chapter(4)
	invalid.Farms[3].Days = to(1, 2)
	for _, x := range []struct {
		name string
		r    round.Round
		l    []int
		want bool
	}{
		{"the smallest one", chapter(4), ints(1, 2, 3), true},
		{"all farms", chapter(4), ints(0, 1, 2, 3), true},
		{"no proof", chapter(4), ints(0, 1, 2), false},
		{"one of them is missing", chapter(4), ints(1, 2), false},
		{"another one is missing", chapter(4), ints(0, 2, 3), false},
		{"not increasing", chapter(4), ints(1, 3, 2), false},
		{"falling", chapter(4), ints(3, 2, 1), false},
		{"a farm twice", chapter(4), ints(1, 2, 3, 3), false},
		{"a farm twice at first", chapter(4), ints(1, 1, 2, 3), false},
		{"a farm beyond", chapter(4), ints(1, 2, 3, 4), false},
		{"a farm below 0", chapter(4), ints(-1, 1, 2, 3), false},
		{"nothing", chapter(4), nil, false},
		{"an empty list", chapter(4), ints(), false},
		{"of a round with a plan", chapter(3), ints(0, 1, 2), false},
		{"of a round without farms", round.Round{Adjusters: 1}, nil, false},
		{"of a round without farms, a farm", round.Round{Adjusters: 1}, ints(0), false},
		{"of an invalid round", invalid, ints(1, 2, 3), false},
		{"of nothing", round.Round{}, nil, false},
	} {
		if is := round.Prove(x.r, x.l); is != x.want {
			t.Errorf("%s: Prove of %v, %v: %v", x.name, x.r, x.l, is)
		}
	}
}

// TestMemory checks R4: arguments stay as they were, results can be written to, and equal calls return equal results.
func TestMemory(t *testing.T) {
	for _, base := range append(rounds(1, 60, 400), chapter(3), chapter(4), full()) {
		r := base
		r.Farms = append(make([]round.Farm, 0, len(base.Farms)+2), base.Farms...)
		asked := append(make([]int, 0, len(base.Farms)+2), but(r)...)
		first := everything(r)
		plan, e := round.Show(r)
		kept := slices.Clone(plan)
		for i := range plan {
			plan[i] = visit(77, 77)
		}
		_ = append(plan, visit(77, 77))
		if again, f := round.Show(r); !slices.Equal(again, kept) || e != f {
			t.Fatalf("Show of %v: %v, %v, then %v, %v", r, kept, e, again, f)
		}
		for _, call := range []func() ([]int, api.Errno){
			func() ([]int, api.Errno) { l, _, e := round.Walk(r, asked); return l, e },
			func() ([]int, api.Errno) { return round.Days(r, 0) },
			func() ([]int, api.Errno) { return round.Leave(r) },
			func() ([]int, api.Errno) { return round.Proof(r) },
		} {
			l, e := call()
			kept := slices.Clone(l)
			for i := range l {
				l[i] = 77
			}
			_ = append(l, 77)
			if again, f := call(); !slices.Equal(again, kept) || e != f {
				t.Fatalf("of %v: %v, %v, then %v, %v", r, kept, e, again, f)
			}
		}
		if everything(r) != first {
			t.Fatalf("not the same again: %v", r)
		}
		if !same(r, base) || r.Farms[:cap(r.Farms)][len(r.Farms)] != (round.Farm{}) || !slices.Equal(asked, but(r)) {
			t.Fatalf("written to: %v, %v", r, asked)
		}
	}
}
