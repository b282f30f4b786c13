package zone_test

import (
	"fmt"
	"math"
	"slices"
	"testing"

	"hailstone/api"
	"hailstone/zone"
)

// odd are numbers of any size.
func odd() []int {
	return ints(math.MinInt, math.MinInt+1, -2, -1, 0, 1, 2, 3, 4, 5, 6, 7, 40, 45, 99, 100, 101, 120, 299, 300, 301, 9995, 9999, 10000, 10001, math.MaxInt-1, math.MaxInt)
}

// historyCase changes the chapter's zone, which then has an error, or OK.
type historyCase struct {
	name   string
	change func(h *history)
	want   api.Errno
}

func checkHistories(t *testing.T, cases []historyCase) {
	t.Helper()
	for _, x := range cases {
		h := clone(chapter())
		x.change(&h)
		if e := zone.CheckZone(h.r, h.z); e != x.want {
			t.Errorf("%s: CheckZone of %v: %v, not %v", x.name, h, e, x.want)
		}
		if x.want != api.OK {
			wantAll(t, x.name, h, x.want)
		} else {
			ask(t, h)
		}
	}
}

// wantAll checks that each call returns the error of the rule and the zone, whatever its other arguments are, and nothing else.
func wantAll(t *testing.T, name string, h history, want api.Errno) {
	t.Helper()
	right := zone.Truth{}
	for _, y := range h.z.Years {
		right.Losses, right.Premiums = append(right.Losses, y.Losses.Lo), append(right.Premiums, y.Premiums.Lo)
	}
	for _, truth := range []zone.Truth{{}, right, {Losses: ints(-1), Premiums: ints()}} {
		if l, e := zone.Play(h.r, h.z, truth); len(l) > 0 || e != want {
			t.Errorf("%s: Play of %v: %v, %v, not %v", name, truth, l, e, want)
		}
		for _, class := range ints(0, 1, h.z.First, -1, math.MaxInt) {
			if zone.ProveClass(h.r, h.z, truth, class) {
				t.Errorf("%s: ProveClass of %v for %d", name, truth, class)
			}
		}
	}
	for _, n := range ints(0, 1, len(h.z.Years), -1, math.MaxInt, math.MinInt) {
		if l, e := zone.Reach(h.r, h.z, n); len(l) > 0 || e != want {
			t.Errorf("%s: Reach of %d: %v, %v, not %v", name, n, l, e, want)
		}
		if m, e := zone.Moves(h.r, h.z, n); m != 0 || e != want {
			t.Errorf("%s: Moves of %d: %d, %v, not %v", name, n, m, e, want)
		}
		if l, e := zone.False(h.r, h.z, n); len(l) > 0 || e != want {
			t.Errorf("%s: False for %d: %v, %v, not %v", name, n, l, e, want)
		}
	}
	if r, e := zone.Next(h.r, h.z); r != at(0) || e != want {
		t.Errorf("%s: Next: %v, %v, not %v", name, r, e, want)
	}
	if l, e := zone.Deciding(h.r, h.z); len(l) > 0 || e != want {
		t.Errorf("%s: Deciding: %v, %v, not %v", name, l, e, want)
	}
}

// classes gives the rule so many classes, and as many prices.
func classes(n int) func(h *history) {
	return func(h *history) {
		h.r.Classes, h.r.Price = n, nil
		for class := range n {
			h.r.Price = append(h.r.Price, 1+class)
		}
	}
}

func years(n int) func(h *history) {
	return func(h *history) { h.z.Years = make([]zone.Year, n) }
}

func both(changes ...func(h *history)) func(h *history) {
	return func(h *history) {
		for _, change := range changes {
			change(h)
		}
	}
}

// TestTooMany has the first condition of the first row: it comes before all others.
func TestTooMany(t *testing.T) {
	price := func(l ...int) func(h *history) { return func(h *history) { h.r.Price = l } }
	first := func(n int) func(h *history) { return func(h *history) { h.z.First = n } }
	checkHistories(t, []historyCase{
		{"as it is", func(h *history) {}, api.OK},
		{"one class", both(classes(1), first(0)), api.OK},
		{"six classes", classes(6), api.OK},
		{"seven classes", classes(7), api.ErrLimit},
		{"very many classes", func(h *history) { h.r.Classes = math.MaxInt }, api.ErrLimit},
		{"no years", years(0), api.OK},
		{"nil years", func(h *history) { h.z.Years = nil }, api.OK},
		{"six years", years(6), api.OK},
		{"seven years", years(7), api.ErrLimit},
		{"very many years", years(9999), api.ErrLimit},

		{"seven classes, and too few prices", both(classes(7), price(1, 2)), api.ErrLimit},
		{"seven classes, and no prices", both(classes(7), price()), api.ErrLimit},
		{"seven classes, and a bad Rest", both(classes(7), func(h *history) { h.r.Rest = -1 }), api.ErrLimit},
		{"seven classes, and a bad First", both(classes(7), first(7)), api.ErrLimit},
		{"seven classes, and a bad year", both(classes(7), func(h *history) { h.z.Years[0].Losses = to(2, 1) }), api.ErrLimit},
		{"seven years, and a bad one", both(years(7), func(h *history) { h.z.Years[6].Parcels = -1 }), api.ErrLimit},
		{"seven years, and no classes", both(years(7), classes(0)), api.ErrLimit},
		{"seven years, and a bad rule", both(years(7), func(h *history) { h.r.Good = 301 }), api.ErrLimit},
		{"seven years, and a bad First", both(years(7), first(-1)), api.ErrLimit},
	})
}

// TestInvalidNumbers has the second condition of the first row, for the numbers that lie between others.
func TestInvalidNumbers(t *testing.T) {
	for _, x := range []struct {
		name        string
		get         func(h *history) *int
		first, last int
	}{
		{"Good", func(h *history) *int { return &h.r.Good }, 0, 120},
		{"Good below the greatest Bad", func(h *history) *int { h.r.Bad = 300; return &h.r.Good }, 0, 300},
		{"Good below the least Bad", func(h *history) *int { h.r.Bad = 0; return &h.r.Good }, 0, 0},
		{"Bad", func(h *history) *int { return &h.r.Bad }, 40, 300},
		{"Bad above the least Good", func(h *history) *int { h.r.Good = 0; return &h.r.Bad }, 0, 300},
		{"Bad above the greatest Good", func(h *history) *int { h.r.Good = 300; return &h.r.Bad }, 300, 300},
		{"Rest", func(h *history) *int { return &h.r.Rest }, 0, 4},
		{"Fewest", func(h *history) *int { return &h.r.Fewest }, 0, 100},
		{"the first price", func(h *history) *int { return &h.r.Price[0] }, 1, 20},
		{"a price in the middle", func(h *history) *int { h.r.Price[3] = 10000; return &h.r.Price[2] }, 20, 10000},
		{"the last price", func(h *history) *int { return &h.r.Price[3] }, 40, 10000},
		{"First", func(h *history) *int { return &h.z.First }, 0, 3},
		{"First of six", func(h *history) *int { classes(6)(h); return &h.z.First }, 0, 5},
		{"First of one", func(h *history) *int { classes(1)(h); return &h.z.First }, 0, 0},
		{"the parcels of the first year", func(h *history) *int { return &h.z.Years[0].Parcels }, 0, 100},
		{"the parcels of the last year", func(h *history) *int { return &h.z.Years[4].Parcels }, 0, 100},
		{"the parcels of a year that is Exempt", func(h *history) *int { h.z.Years[4].Exempt = true; return &h.z.Years[4].Parcels }, 0, 100},
	} {
		var cases []historyCase
		for _, n := range odd() {
			want := api.ErrArg
			if n >= x.first && n <= x.last {
				want = api.OK
			}
			cases = append(cases, historyCase{fmt.Sprint(x.name, " is ", n), func(h *history) { *x.get(h) = n }, want})
		}
		checkHistories(t, cases)
	}
}

// TestInvalidPrices has the second condition of the first row, for classes and their prices.
func TestInvalidPrices(t *testing.T) {
	price := func(classes int, l ...int) func(h *history) {
		return func(h *history) { h.r.Classes, h.r.Price, h.z.First = classes, l, 0 }
	}
	var cases []historyCase
	for _, n := range odd() {
		want := api.ErrArg
		switch {
		case n > 6:
			want = api.ErrLimit
		case n == 4:
			want = api.OK
		}
		cases = append(cases, historyCase{fmt.Sprint(n, " classes with four prices"), func(h *history) { h.r.Classes = n }, want})
	}
	checkHistories(t, append(cases, []historyCase{
		{"no classes", classes(0), api.ErrArg},
		{"no classes, and no years", both(classes(0), years(0)), api.ErrArg},
		{"no prices", price(4), api.ErrArg},
		{"nil prices", func(h *history) { h.r.Price = nil }, api.ErrArg},
		{"a price too few", price(4, 10, 20, 40), api.ErrArg},
		{"a price too many", price(4, 10, 20, 40, 80, 80), api.ErrArg},
		{"seven prices for six classes", price(6, 1, 2, 3, 4, 5, 6, 7), api.ErrArg},
		{"very many prices", price(4, make([]int, 9999)...), api.ErrArg},
		{"one price", price(1, 7), api.OK},
		{"equal prices", price(4, 7, 7, 7, 7), api.OK},
		{"the least prices", price(6, 1, 1, 1, 1, 1, 1), api.OK},
		{"the greatest prices", price(3, 10000, 10000, 10000), api.OK},
		{"prices that fall at first", price(4, 8, 7, 9, 9), api.ErrArg},
		{"prices that fall in the middle", price(4, 6, 8, 7, 9), api.ErrArg},
		{"prices that fall at last", price(4, 6, 8, 8, 7), api.ErrArg},
		{"prices of 0", price(3, 0, 0, 0), api.ErrArg},
		{"prices below 0", price(2, -2, -1), api.ErrArg},
		{"a zero rule", func(h *history) { h.r = zone.Rule{} }, api.ErrArg},
		{"nothing", func(h *history) { *h = history{} }, api.ErrArg},
		{"a year of zeros", years(1), api.OK},
	}...))
}

// TestInvalidRanges has the second condition of the first row, for each range.
func TestInvalidRanges(t *testing.T) {
	for _, x := range []struct {
		name string
		get  func(h *history) *zone.Range
	}{
		{"the first losses", func(h *history) *zone.Range { return &h.z.Years[0].Losses }},
		{"the last losses", func(h *history) *zone.Range { return &h.z.Years[4].Losses }},
		{"the first premiums", func(h *history) *zone.Range { return &h.z.Years[0].Premiums }},
		{"the last premiums", func(h *history) *zone.Range { return &h.z.Years[4].Premiums }},
		{"the losses of a year with too few parcels", func(h *history) *zone.Range { return &h.z.Years[2].Losses }},
		{"the premiums of a year that is Exempt", func(h *history) *zone.Range { h.z.Years[1].Exempt = true; return &h.z.Years[1].Premiums }},
	} {
		var cases []historyCase
		for _, low := range odd() {
			for _, high := range odd() {
				want := api.ErrArg
				if low >= 0 && low <= high && high <= 10000 && high <= low+5 {
					want = api.OK
				}
				cases = append(cases, historyCase{fmt.Sprint(x.name, " are ", low, "..", high), func(h *history) { *x.get(h) = to(low, high) }, want})
			}
		}
		checkHistories(t, cases)
	}
}

// TestErrorsOfPlay has the row of Play. What is no truth proves nothing, either.
func TestErrorsOfPlay(t *testing.T) {
	h := chapter()
	losses, premiums := ints(50, 130, 10, 30, 39), ints(100, 108, 100, 100, 100)
	empty := history{h.r, zone.Zone{First: 2}}
	for _, x := range []struct {
		name             string
		h                history
		losses, premiums []int
		want             api.Errno
	}{
		{"as it is", h, losses, premiums, api.OK},
		{"nothing", h, nil, nil, api.ErrRange},
		{"empty lists", h, ints(), ints(), api.ErrRange},
		{"no losses", h, nil, premiums, api.ErrRange},
		{"no premiums", h, losses, nil, api.ErrRange},
		{"too few losses", h, losses[:4], premiums, api.ErrRange},
		{"too few premiums", h, losses, premiums[:4], api.ErrRange},
		{"too few of both", h, losses[:4], premiums[:4], api.ErrRange},
		{"too many losses", h, append(slices.Clone(losses), 39), premiums, api.ErrRange},
		{"too many premiums", h, losses, append(slices.Clone(premiums), 100), api.ErrRange},
		{"too many of both", h, append(slices.Clone(losses), 39), append(slices.Clone(premiums), 100), api.ErrRange},
		{"very many", h, make([]int, 9999), make([]int, 9999), api.ErrRange},
		{"the other way round", h, premiums, losses, api.ErrRange},
		{"no years", empty, nil, nil, api.OK},
		{"no years, and empty lists", empty, ints(), ints(), api.OK},
		{"no years, and losses", empty, ints(0), nil, api.ErrRange},
		{"no years, and premiums", empty, nil, ints(0), api.ErrRange},
	} {
		checkPlay(t, x.name, x.h, zone.Truth{Losses: x.losses, Premiums: x.premiums}, x.want)
	}
	for _, n := range append(odd(), 49, 50, 51, 129, 130, 131, 132, 107, 108, 109, 110, 10, 30, 38, 39, 41, 42, 102, 103) {
		for i, y := range h.z.Years {
			truth := zone.Truth{Losses: slices.Clone(losses), Premiums: premiums}
			truth.Losses[i] = n
			checkPlay(t, "a loss", h, truth, rangeError(y.Losses, n))
			truth = zone.Truth{Losses: losses, Premiums: slices.Clone(premiums)}
			truth.Premiums[i] = n
			checkPlay(t, "a premium", h, truth, rangeError(y.Premiums, n))
		}
	}
}

// rangeError is OK for a number of the range.
func rangeError(r zone.Range, n int) api.Errno {
	if has(r, n) {
		return api.OK
	}
	return api.ErrRange
}

func checkPlay(t *testing.T, name string, h history, truth zone.Truth, want api.Errno) {
	t.Helper()
	l, e := zone.Play(h.r, h.z, truth)
	if e != want || e != api.OK && len(l) > 0 || e == api.OK && len(l) != len(h.z.Years) {
		t.Errorf("%s: Play of %v: %v, %v, not %v", name, truth, l, e, want)
	}
	proves := false
	for class := range h.r.Classes {
		proves = proves || zone.ProveClass(h.r, h.z, truth, class)
	}
	if proves != (want == api.OK) {
		t.Errorf("%s: ProveClass of %v: %v", name, truth, proves)
	}
}

// TestErrorsOfYears has the row of Moves and Reach.
func TestErrorsOfYears(t *testing.T) {
	for number := range 7 {
		h := chapter()
		years(number)(&h)
		for _, n := range odd() {
			want := rangeError(to(0, number-1), n)
			if l, e := zone.Reach(h.r, h.z, n); e != want || (len(l) > 0) != (e == api.OK) {
				t.Errorf("Reach of %d of %d: %v, %v, not %v", n, number, l, e, want)
			}
			if m, e := zone.Moves(h.r, h.z, n); e != want || (m != 0) != (e == api.OK) {
				t.Errorf("Moves of %d of %d: %v, %v, not %v", n, number, m, e, want)
			}
		}
	}
}

// TestErrorsOfFalse has the row of False.
func TestErrorsOfFalse(t *testing.T) {
	for number := 1; number <= 6; number++ {
		for counting := range 7 {
			h := chapter()
			both(classes(number), years(6))(&h)
			h.z.First = 0
			for i := range counting {
				h.z.Years[i].Parcels = 5
			}
			for _, n := range odd() {
				want := rangeError(to(0, number-1), n)
				if want == api.OK && n > counting {
					want = api.ErrNone
				}
				if l, e := zone.False(h.r, h.z, n); e != want || len(l) > 0 && e != api.OK || e == api.OK && len(l) != n {
					t.Errorf("False for %d of %d, with %d years: %v, %v, not %v", n, number, counting, l, e, want)
				}
			}
		}
	}
}

// TestEmptyLists checks R3: nil is the same as a list without elements.
func TestEmptyLists(t *testing.T) {
	r := chapter().r
	for _, pair := range [][2]history{
		{{}, {zone.Rule{Price: ints()}, zone.Zone{Years: []zone.Year{}}}},
		{{r, zone.Zone{First: 2}}, {r, zone.Zone{First: 2, Years: []zone.Year{}}}},
	} {
		for class := -1; class < 5; class++ {
			a := everything(pair[0], zone.Truth{}, 0, class)
			for _, h := range pair {
				if b := everything(h, zone.Truth{Losses: ints(), Premiums: ints()}, 0, class); a != b {
					t.Errorf("nil is not the same as empty: %s, %s", a, b)
				}
			}
		}
	}
	h := history{r, zone.Zone{First: 2}}
	if a := ask(t, h); len(a.reach) > 0 || a.next != at(40) || len(a.deciding) > 0 || len(a.lies) != 1 || len(a.lies[2]) > 0 {
		t.Errorf("a zone without years: %v", a)
	}
}

// numbers are all numbers of a zone and its rule.
func numbers(h *history) []*int {
	list := []*int{&h.r.Classes, &h.r.Good, &h.r.Bad, &h.r.Rest, &h.r.Fewest, &h.z.First}
	for i := range h.r.Price {
		list = append(list, &h.r.Price[i])
	}
	for i := range h.z.Years {
		y := &h.z.Years[i]
		list = append(list, &y.Losses.Lo, &y.Losses.Hi, &y.Premiums.Lo, &y.Premiums.Hi, &y.Parcels)
	}
	return list
}

// TestAnyArguments calls everything with numbers of any size: nothing panics, and all calls agree on the error of the zone (P1, R1).
func TestAnyArguments(t *testing.T) {
	base := chapter()
	base.z.Years = base.z.Years[:3]
	for of := range numbers(&base) {
		for other := range of + 1 {
			for _, n := range odd() {
				h := clone(base)
				*numbers(&h)[of] = n
				*numbers(&h)[other] = n
				want := checked(h)
				if e := zone.CheckZone(h.r, h.z); e != want {
					t.Errorf("CheckZone of %v: %v, not %v", h, e, want)
				}
				if want != api.OK {
					wantAll(t, fmt.Sprint(h), h, want)
				} else {
					ask(t, h)
				}
				everything(h, zone.Truth{Losses: ints(n, n, n), Premiums: ints(n, n, n)}, n, n)
				everything(h, zone.Truth{Losses: ints(50, 130, 10), Premiums: ints(100, 108, n)}, 1, n)
			}
		}
	}
}

// checked is the error of a zone with at most six years, by counting what is not so.
func checked(h history) api.Errno {
	if h.r.Classes > 6 {
		return api.ErrLimit
	}
	bad := 0
	within := func(n, low, high int) {
		if n < low || n > high {
			bad++
		}
	}
	within(h.r.Classes, 1, 6)
	within(len(h.r.Price), h.r.Classes, h.r.Classes)
	within(h.r.Good, 0, 300)
	within(h.r.Bad, h.r.Good, 300)
	within(h.r.Rest, 0, 4)
	within(h.r.Fewest, 0, 100)
	within(h.z.First, 0, h.r.Classes-1)
	least := 1
	for _, n := range h.r.Price {
		within(n, least, 10000)
		least = n
	}
	for _, y := range h.z.Years {
		for _, r := range []zone.Range{y.Losses, y.Premiums} {
			within(r.Lo, 0, 10000)
			within(r.Hi, r.Lo, 10000)
			if r.Hi >= 5 {
				within(r.Lo, r.Hi-5, r.Hi)
			}
		}
		within(y.Parcels, 0, 100)
	}
	if bad > 0 {
		return api.ErrArg
	}
	return api.OK
}
