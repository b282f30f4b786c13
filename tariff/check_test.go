package tariff_test

import (
	"fmt"
	"math"
	"slices"
	"testing"

	"hailstone/api"
	"hailstone/tariff"
)

// odd are numbers of any size.
func odd() []int {
	return ints(math.MinInt, math.MinInt+1, -1, 0, 1, 2, 3, 4, 5, 9, 10, 11, 12, 99, 100, 101, 119, 120, 121, 100000, 100001, math.MaxInt-1, math.MaxInt)
}

// listCase changes the chapter's tariffs, which then have an error, or OK.
type listCase struct {
	name   string
	change func(l *[]tariff.Tariff)
	want   api.Errno
}

func checkCases(t *testing.T, cases []listCase) {
	t.Helper()
	for _, x := range cases {
		l := chapter()
		x.change(&l)
		if e := tariff.CheckTariffs(l); e != x.want {
			t.Errorf("%s: CheckTariffs of %v: %v, not %v", x.name, l, e, x.want)
		}
		if x.want != api.OK {
			wantAll(t, x.name, l, x.want)
		} else if n, e := tariff.Part(l, 0, 0, 0); e != api.OK {
			t.Errorf("%s: Part of %v: %d, %v", x.name, l, n, e)
		}
	}
}

// wantAll checks that each call returns the error of the tariffs, whatever its other arguments are, and nothing else.
func wantAll(t *testing.T, name string, l []tariff.Tariff, want api.Errno) {
	t.Helper()
	for _, n := range ints(0, 1, -1, 121, math.MaxInt) {
		if p, e := tariff.Part(l, n, n, n); p != 0 || e != want {
			t.Errorf("%s: Part: %d, %v", name, p, e)
		}
		if p, e := tariff.Least(l, n, n); p != 0 || e != want {
			t.Errorf("%s: Least: %d, %v", name, p, e)
		}
		if m, e := tariff.Misprints(l, n, n, n); len(m) != 0 || e != want {
			t.Errorf("%s: Misprints: %v, %v", name, m, e)
		}
		for _, high := range ints(n, n+1) {
			wantOfClaim(t, name, l, tariff.Claim{Crop: n, Value: n, Day: to(n, high), Count: at(n)}, want)
		}
	}
	if r, e := tariff.Total(l, nil); r != at(0) || e != want {
		t.Errorf("%s: Total of no claims: %v, %v", name, r, e)
	}
	if r, e := tariff.Total(l, make([]tariff.Claim, 6)); r != at(0) || e != want {
		t.Errorf("%s: Total of six claims: %v, %v", name, r, e)
	}
}

// wantOfClaim checks that each call with the claim returns the error, and nothing else.
func wantOfClaim(t *testing.T, name string, l []tariff.Tariff, c tariff.Claim, want api.Errno) {
	t.Helper()
	u := truth(c.Day.Lo, c.Count.Lo)
	if n, e := tariff.Pay(l, c, u); n != 0 || e != want {
		t.Errorf("%s: Pay of %v: %d, %v, not %v", name, c, n, e, want)
	}
	if r, e := tariff.Bounds(l, c); r != at(0) || e != want {
		t.Errorf("%s: Bounds of %v: %v, %v, not %v", name, c, r, e, want)
	}
	for _, high := range []bool{false, true} {
		if u, e := tariff.Show(l, c, high); u != truth(0, 0) || e != want {
			t.Errorf("%s: Show of %v: %v, %v, not %v", name, c, u, e, want)
		}
	}
	if v, e := tariff.Paid(l, c); v != 0 || e != want {
		t.Errorf("%s: Paid of %v: %d, %v, not %v", name, c, v, e, want)
	}
	if r, e := tariff.Total(l, []tariff.Claim{c}); r != at(0) || e != want {
		t.Errorf("%s: Total of %v: %v, %v, not %v", name, c, r, e, want)
	}
	if tariff.ProvePay(l, c, u, 0) {
		t.Errorf("%s: ProvePay of %v", name, c)
	}
}

// TestTooMany has the first row of the errors.
func TestTooMany(t *testing.T) {
	checkCases(t, []listCase{
		{"as they are", func(l *[]tariff.Tariff) {}, api.OK},
		{"only one", func(l *[]tariff.Tariff) { *l = (*l)[:1] }, api.OK},
		{"three", func(l *[]tariff.Tariff) {
			*l = append(*l, (*l)[1])
			(*l)[2].From = 31
		}, api.OK},
		{"four", func(l *[]tariff.Tariff) {
			*l = append(*l, (*l)[1], (*l)[1])
			(*l)[2].From, (*l)[3].From = 31, 32
		}, api.ErrLimit},
		{"the smallest one", func(l *[]tariff.Tariff) { *l = []tariff.Tariff{grow(1, 2, 1)} }, api.OK},
		{"the greatest one", func(l *[]tariff.Tariff) { *l = []tariff.Tariff{grow(4, 5, 3)} }, api.OK},
		{"four weeks", func(l *[]tariff.Tariff) { (*l)[1] = later(grow(4, 2, 1)) }, api.OK},
		{"five weeks", func(l *[]tariff.Tariff) { (*l)[1] = later(grow(5, 2, 1)) }, api.ErrLimit},
		{"five weeks in the first one", func(l *[]tariff.Tariff) { (*l)[0] = grow(5, 2, 1) }, api.ErrLimit},
		{"five counts", func(l *[]tariff.Tariff) { (*l)[1] = later(grow(1, 5, 1)) }, api.OK},
		{"six counts", func(l *[]tariff.Tariff) { (*l)[1] = later(grow(1, 6, 1)) }, api.ErrLimit},
		{"six counts in the first one", func(l *[]tariff.Tariff) { (*l)[0] = grow(1, 6, 1) }, api.ErrLimit},
		{"three crops", func(l *[]tariff.Tariff) { *l = []tariff.Tariff{grow(1, 2, 3), later(grow(1, 3, 3))} }, api.OK},
		{"four crops", func(l *[]tariff.Tariff) { *l = []tariff.Tariff{grow(1, 2, 4), later(grow(1, 3, 4))} }, api.ErrLimit},
		{"four crops in the last one alone", func(l *[]tariff.Tariff) { (*l)[1] = later(grow(1, 2, 4)) }, api.ErrLimit},

		{"four that are nothing", func(l *[]tariff.Tariff) { *l = make([]tariff.Tariff, 4) }, api.ErrLimit},
		{"very many", func(l *[]tariff.Tariff) { *l = make([]tariff.Tariff, 9999) }, api.ErrLimit},
		{"five weeks without rates", func(l *[]tariff.Tariff) { (*l)[0].Weeks = ints(0, 1, 2, 3, 4) }, api.ErrLimit},
		{"five weeks that do not rise", func(l *[]tariff.Tariff) { (*l)[0].Weeks = make([]int, 5) }, api.ErrLimit},
		{"six counts without rates", func(l *[]tariff.Tariff) { (*l)[0].Counts = ints(0, 1, 2, 3, 4, 100) }, api.ErrLimit},
		{"four crops without weeks", func(l *[]tariff.Tariff) { (*l)[0].Rates = make([][][]int, 4) }, api.ErrLimit},
		{"four crops in the last one, and a bad first one", func(l *[]tariff.Tariff) {
			(*l)[0].Least, (*l)[1].Rates = -1, make([][][]int, 4)
		}, api.ErrLimit},
		{"six counts in the last one, and a bad first one", func(l *[]tariff.Tariff) {
			(*l)[0], (*l)[1].Counts = tariff.Tariff{}, make([]int, 6)
		}, api.ErrLimit},
		{"five weeks of rates, where there are two", func(l *[]tariff.Tariff) { (*l)[0].Rates[0] = make([][]int, 5) }, api.ErrArg},
		{"six rates, where there are three", func(l *[]tariff.Tariff) { (*l)[0].Rates[0][0] = make([]int, 6) }, api.ErrArg},
	})
}

// later lets the tariff begin after the chapter's first one.
func later(x tariff.Tariff) tariff.Tariff {
	x.From = 30
	return x
}

// TestInvalidTariffs has the second row of the errors.
func TestInvalidTariffs(t *testing.T) {
	checkCases(t, []listCase{
		{"nothing", func(l *[]tariff.Tariff) { *l = nil }, api.ErrArg},
		{"an empty list", func(l *[]tariff.Tariff) { *l = []tariff.Tariff{} }, api.ErrArg},
		{"a tariff of nothing", func(l *[]tariff.Tariff) { *l = make([]tariff.Tariff, 1) }, api.ErrArg},
		{"the last one is nothing", func(l *[]tariff.Tariff) { (*l)[1] = tariff.Tariff{From: 30} }, api.ErrArg},

		{"the first one is not from 0", func(l *[]tariff.Tariff) { (*l)[0].From = 1 }, api.ErrArg},
		{"the first one is from below 0", func(l *[]tariff.Tariff) { (*l)[0].From = -1 }, api.ErrArg},
		{"both are from 0", func(l *[]tariff.Tariff) { (*l)[1].From = 0 }, api.ErrArg},
		{"the last one is from 1", func(l *[]tariff.Tariff) { (*l)[1].From = 1 }, api.OK},
		{"the last one is from 120", func(l *[]tariff.Tariff) { (*l)[1].From = 120 }, api.OK},
		{"the last one is from 121", func(l *[]tariff.Tariff) { (*l)[1].From = 121 }, api.ErrArg},
		{"three, of which two are from the same day", func(l *[]tariff.Tariff) { *l = append(*l, (*l)[1]) }, api.ErrArg},
		{"three, of which the last one is before", func(l *[]tariff.Tariff) {
			*l = append(*l, (*l)[1])
			(*l)[2].From = 29
		}, api.ErrArg},

		{"no weeks", func(l *[]tariff.Tariff) { (*l)[0].Weeks = nil }, api.ErrArg},
		{"no weeks, nor rates", func(l *[]tariff.Tariff) { (*l)[0].Weeks, (*l)[0].Rates = ints(), [][][]int{{}} }, api.ErrArg},
		{"weeks that do not begin with 0", func(l *[]tariff.Tariff) { (*l)[0].Weeks = ints(1, 10) }, api.ErrArg},
		{"weeks that begin below 0", func(l *[]tariff.Tariff) { (*l)[0].Weeks = ints(-1, 0) }, api.ErrArg},
		{"weeks that are the same", func(l *[]tariff.Tariff) { (*l)[0].Weeks = ints(0, 0) }, api.ErrArg},
		{"weeks that fall", func(l *[]tariff.Tariff) {
			(*l)[0] = grow(3, 2, 1)
			(*l)[0].Weeks = ints(0, 10, 9)
		}, api.ErrArg},
		{"a week on the day 120", func(l *[]tariff.Tariff) { (*l)[0].Weeks = ints(0, 120) }, api.OK},
		{"a week on the day 121", func(l *[]tariff.Tariff) { (*l)[0].Weeks = ints(0, 121) }, api.ErrArg},
		{"a week before the tariff", func(l *[]tariff.Tariff) {
			(*l)[1] = later(grow(2, 2, 1))
			(*l)[1].Weeks = ints(0, 7)
		}, api.OK},

		{"no counts", func(l *[]tariff.Tariff) { (*l)[0].Counts, (*l)[0].Rates = nil, [][][]int{{{}, {}}} }, api.ErrArg},
		{"one count", func(l *[]tariff.Tariff) { (*l)[1].Counts, (*l)[1].Rates = ints(0), [][][]int{{{1}}} }, api.ErrArg},
		{"one count of 100", func(l *[]tariff.Tariff) { (*l)[1].Counts, (*l)[1].Rates = ints(100), [][][]int{{{1}}} }, api.ErrArg},
		{"counts that do not begin with 0", func(l *[]tariff.Tariff) { (*l)[0].Counts = ints(1, 50, 100) }, api.ErrArg},
		{"counts that begin below 0", func(l *[]tariff.Tariff) { (*l)[0].Counts = ints(-1, 50, 100) }, api.ErrArg},
		{"counts that end with 99", func(l *[]tariff.Tariff) { (*l)[0].Counts = ints(0, 50, 99) }, api.ErrArg},
		{"counts that end with 101", func(l *[]tariff.Tariff) { (*l)[0].Counts = ints(0, 50, 101) }, api.ErrArg},
		{"counts that are the same", func(l *[]tariff.Tariff) { (*l)[0].Counts = ints(0, 100, 100) }, api.ErrArg},
		{"counts that are 0 twice", func(l *[]tariff.Tariff) { (*l)[0].Counts = ints(0, 0, 100) }, api.ErrArg},
		{"counts that fall", func(l *[]tariff.Tariff) { (*l)[0].Counts = ints(0, 101, 100) }, api.ErrArg},
		{"a count of 1, and one of 99", func(l *[]tariff.Tariff) {
			(*l)[0] = grow(1, 4, 1)
			(*l)[0].Counts = ints(0, 1, 99, 100)
		}, api.OK},

		{"no crops", func(l *[]tariff.Tariff) { (*l)[0].Rates, (*l)[1].Rates = nil, nil }, api.ErrArg},
		{"empty lists of crops", func(l *[]tariff.Tariff) { (*l)[0].Rates, (*l)[1].Rates = [][][]int{}, [][][]int{} }, api.ErrArg},
		{"more crops in the last one", func(l *[]tariff.Tariff) { (*l)[1] = later(grow(1, 2, 2)) }, api.ErrArg},
		{"more crops in the first one", func(l *[]tariff.Tariff) { (*l)[0] = grow(1, 2, 3) }, api.ErrArg},
		{"no crops in the last one", func(l *[]tariff.Tariff) { (*l)[1].Rates = nil }, api.ErrArg},
		{"rates for too few weeks", func(l *[]tariff.Tariff) { (*l)[0].Rates[0] = (*l)[0].Rates[0][:1] }, api.ErrArg},
		{"rates for too many weeks", func(l *[]tariff.Tariff) { (*l)[0].Weeks = ints(0) }, api.ErrArg},
		{"rates for no weeks", func(l *[]tariff.Tariff) { (*l)[0].Rates[0] = nil }, api.ErrArg},
		{"rates for too few counts", func(l *[]tariff.Tariff) { (*l)[0].Rates[0][1] = ints(0, 100) }, api.ErrArg},
		{"rates for too many counts", func(l *[]tariff.Tariff) { (*l)[0].Rates[0][0] = ints(0, 1, 2, 3) }, api.ErrArg},
		{"no rates in a week", func(l *[]tariff.Tariff) { (*l)[0].Rates[0][0] = nil }, api.ErrArg},
		{"the last crop has too few rates", func(l *[]tariff.Tariff) {
			*l = []tariff.Tariff{grow(4, 5, 3)}
			(*l)[0].Rates[2][3] = ints(1, 1, 1, 1)
		}, api.ErrArg},
		{"rates that fall", func(l *[]tariff.Tariff) { (*l)[0].Rates[0][0] = ints(100, 50, 0) }, api.OK},
		{"whole, or not", func(l *[]tariff.Tariff) { (*l)[0].Whole, (*l)[1].Whole = false, true }, api.OK},
	})
}

// TestInvalidNumbers has the second row of the errors too, for the numbers from 0 to 100.
func TestInvalidNumbers(t *testing.T) {
	for name, get := range map[string]func(l []tariff.Tariff) *int{
		"the first Least": func(l []tariff.Tariff) *int { return &l[0].Least },
		"the last Least":  func(l []tariff.Tariff) *int { return &l[1].Least },
		"the first rate":  func(l []tariff.Tariff) *int { return &l[0].Rates[0][0][0] },
		"a rate between":  func(l []tariff.Tariff) *int { return &l[0].Rates[0][1][1] },
		"the last rate":   func(l []tariff.Tariff) *int { return &l[1].Rates[0][0][1] },
	} {
		var cases []listCase
		for _, n := range odd() {
			want := api.ErrArg
			if n >= 0 && n <= 100 {
				want = api.OK
			}
			cases = append(cases, listCase{fmt.Sprint(name, " is ", n), func(l *[]tariff.Tariff) { *get(*l) = n }, want})
		}
		checkCases(t, cases)
	}
}

// TestErrorsOfCropsDaysCounts has the row of Part, and those of Least.
func TestErrorsOfCropsDaysCounts(t *testing.T) {
	one, three := chapter(), []tariff.Tariff{grow(1, 2, 3)}
	none := least(chapter(), 100, false)
	for _, n := range odd() {
		for _, x := range []struct {
			name             string
			l                []tariff.Tariff
			crop, day, count int
			is, none         bool
		}{
			{"a crop", one, n, 12, 90, n == 0, false},
			{"a crop of three", three, n, 12, 90, n >= 0 && n < 3, false},
			{"a day", one, 0, n, 90, n >= 0 && n <= 120, false},
			{"a count", one, 0, 12, n, n >= 0 && n <= 100, false},
			{"a crop for which nothing is paid", none, n, 12, 90, n == 0, true},
			{"a day on which nothing is paid", none, 0, n, 90, n >= 0 && n <= 120, true},
			{"a crop, on no day", one, n, 121, 90, false, false},
			{"a day, of no crop", one, 1, n, 90, false, false},
			{"a count, of no crop", one, -1, 12, n, false, false},
			{"a count, on no day", one, 0, -1, n, false, false},
		} {
			want := api.ErrRange
			if x.is {
				want = api.OK
			}
			if p, e := tariff.Part(x.l, x.crop, x.day, x.count); e != want || e != api.OK && p != 0 {
				t.Errorf("%s %d: Part: %d, %v, not %v", x.name, n, p, e, want)
			}
			switch {
			case x.count == n:
				continue
			case x.is && x.none:
				want = api.ErrNone
			}
			if p, e := tariff.Least(x.l, x.crop, x.day); e != want || e != api.OK && p != 0 {
				t.Errorf("%s %d: Least: %d, %v, not %v", x.name, n, p, e, want)
			}
		}
	}
}

// TestErrorsOfClaims has the row of the calls with claims.
func TestErrorsOfClaims(t *testing.T) {
	three := []tariff.Tariff{grow(1, 2, 3)}
	for _, x := range []struct {
		name  string
		l     []tariff.Tariff
		c     tariff.Claim
		valid bool
	}{
		{"as it is", chapter(), claim(1050, to(9, 12), to(20, 25)), true},
		{"nothing", chapter(), tariff.Claim{}, true},
		{"no such crop", chapter(), tariff.Claim{Crop: 1}, false},
		{"a crop below 0", chapter(), tariff.Claim{Crop: -1}, false},
		{"a crop very large", chapter(), tariff.Claim{Crop: math.MaxInt}, false},
		{"the last crop", three, tariff.Claim{Crop: 2}, true},
		{"a crop beyond three", three, tariff.Claim{Crop: 3}, false},
		{"the greatest value", chapter(), tariff.Claim{Value: 100000}, true},
		{"a value beyond", chapter(), tariff.Claim{Value: 100001}, false},
		{"a value below 0", chapter(), tariff.Claim{Value: -1}, false},
		{"a value very large", chapter(), tariff.Claim{Value: math.MaxInt}, false},
		{"a value far below 0", chapter(), tariff.Claim{Value: math.MinInt}, false},
		{"days that differ by 10", chapter(), claim(10, to(0, 10), at(0)), true},
		{"days that differ by 11", chapter(), claim(10, to(0, 11), at(0)), false},
		{"the last days", chapter(), claim(10, to(110, 120), at(0)), true},
		{"the last days, and one more", chapter(), claim(10, to(109, 120), at(0)), false},
		{"the last day", chapter(), claim(10, at(120), at(0)), true},
		{"a day beyond", chapter(), claim(10, at(121), at(0)), false},
		{"days up to one beyond", chapter(), claim(10, to(120, 121), at(0)), false},
		{"a day below 0", chapter(), claim(10, to(-1, 0), at(0)), false},
		{"days that are turned round", chapter(), claim(10, to(1, 0), at(0)), false},
		{"days from one end to the other", chapter(), claim(10, to(math.MinInt, math.MaxInt), at(0)), false},
		{"days from the other end to this one", chapter(), claim(10, to(math.MaxInt, math.MinInt), at(0)), false},
		{"days very large", chapter(), claim(10, at(math.MaxInt), at(0)), false},
		{"all counts", chapter(), claim(10, at(0), to(0, 100)), true},
		{"the last count", chapter(), claim(10, at(0), at(100)), true},
		{"a count beyond", chapter(), claim(10, at(0), at(101)), false},
		{"counts up to one beyond", chapter(), claim(10, at(0), to(100, 101)), false},
		{"a count below 0", chapter(), claim(10, at(0), to(-1, 0)), false},
		{"counts that are turned round", chapter(), claim(10, at(0), to(51, 50)), false},
		{"counts from one end to the other", chapter(), claim(10, at(0), to(math.MinInt, math.MaxInt)), false},
		{"counts far below 0", chapter(), claim(10, at(0), at(math.MinInt)), false},
	} {
		if !x.valid {
			wantOfClaim(t, x.name, x.l, x.c, api.ErrRange)
			continue
		}
		bounds, e := tariff.Bounds(x.l, x.c)
		total, f := tariff.Total(x.l, []tariff.Claim{x.c})
		if e != api.OK || f != api.OK || total != bounds {
			t.Errorf("%s: Bounds, Total: %v, %v, %v, %v", x.name, bounds, e, total, f)
		}
		u, e := tariff.Show(x.l, x.c, false)
		n, f := tariff.Pay(x.l, x.c, u)
		if e != api.OK || f != api.OK || n != bounds.Lo || !tariff.ProvePay(x.l, x.c, u, n) {
			t.Errorf("%s: Show, Pay: %v, %v, %d, %v", x.name, u, e, n, f)
		}
		if v, e := tariff.Paid(x.l, x.c); v == 0 || e != api.OK {
			t.Errorf("%s: Paid: %d, %v", x.name, v, e)
		}
	}
}

// TestErrorsOfTruths has what the row says of Pay, and ProvePay.
func TestErrorsOfTruths(t *testing.T) {
	l, c := chapter(), claim(1000, to(9, 12), to(20, 25))
	for _, day := range append(odd(), 8, 13) {
		for _, count := range append(odd(), 19, 20, 22, 25, 26) {
			u := truth(day, count)
			n, e := tariff.Pay(l, c, u)
			proved := tariff.ProvePay(l, c, u, n)
			if has(c.Day, day) && has(c.Count, count) {
				if e != api.OK || n == 0 || !proved {
					t.Errorf("Pay, ProvePay of %v: %d, %v, %v", u, n, e, proved)
				}
			} else if e != api.ErrRange || n != 0 || proved {
				t.Errorf("Pay, ProvePay of %v: %d, %v, %v", u, n, e, proved)
			}
		}
	}
}

// TestErrorsOfTotal has the row of Total: too many claims come before bad ones, and all of them are asked.
func TestErrorsOfTotal(t *testing.T) {
	good, bad := claim(1000, at(0), at(100)), claim(-1, at(0), at(100))
	for _, x := range []struct {
		name   string
		claims []tariff.Claim
		want   api.Errno
	}{
		{"five", slices.Repeat([]tariff.Claim{good}, 5), api.OK},
		{"six", slices.Repeat([]tariff.Claim{good}, 6), api.ErrLimit},
		{"six bad ones", slices.Repeat([]tariff.Claim{bad}, 6), api.ErrLimit},
		{"five bad ones", slices.Repeat([]tariff.Claim{bad}, 5), api.ErrRange},
		{"the first one is bad", []tariff.Claim{bad, good}, api.ErrRange},
		{"the last one is bad", []tariff.Claim{good, good, bad}, api.ErrRange},
	} {
		if r, e := tariff.Total(chapter(), x.claims); e != x.want || e != api.OK && r != at(0) {
			t.Errorf("%s: Total: %v, %v, not %v", x.name, r, e, x.want)
		}
	}
}

// TestErrorsOfMisprints has the last row: weeks are meant by their numbers, as tariffs and crops are.
func TestErrorsOfMisprints(t *testing.T) {
	three := []tariff.Tariff{grow(4, 3, 3), grow(1, 3, 3), grow(2, 3, 3)}
	three[1].From, three[2].From = 10, 20
	weeks := ints(4, 1, 2)
	for _, n := range odd() {
		for _, x := range []struct {
			name              string
			which, crop, week int
			is                bool
		}{
			{"a tariff", n, 2, 0, n >= 0 && n < 3},
			{"a tariff, and its second week", n, 0, 1, n == 0 || n == 2},
			{"a crop", 2, n, 1, n >= 0 && n < 3},
			{"a week of the first tariff", 0, 0, n, n >= 0 && n < weeks[0]},
			{"a week of the second tariff", 1, 0, n, n >= 0 && n < weeks[1]},
			{"a week of the third tariff", 2, 2, n, n >= 0 && n < weeks[2]},
			{"a week of no tariff", 3, 0, n, false},
			{"a week of no crop", 0, 3, n, false},
			{"a crop of no tariff", -1, n, 0, false},
			{"a crop in no week", 1, n, 1, false},
		} {
			want := api.ErrRange
			if x.is {
				want = api.OK
			}
			if m, e := tariff.Misprints(three, x.which, x.crop, x.week); len(m) != 0 || e != want {
				t.Errorf("%s %d: Misprints: %v, %v, not %v", x.name, n, m, e, want)
			}
		}
	}
}

// TestEmptyLists checks R3: nil is the same as a list without elements.
func TestEmptyLists(t *testing.T) {
	for _, pair := range [][2][]tariff.Tariff{
		{nil, {}},
		{{{}}, {{Weeks: ints(), Counts: ints(), Rates: [][][]int{}}}},
		{{{Weeks: ints(0), Counts: ints(0, 100), Rates: [][][]int{nil}}}, {{Weeks: ints(0), Counts: ints(0, 100), Rates: [][][]int{{}}}}},
		{one(ints(0, 100), nil), one(ints(0, 100), ints())},
	} {
		if everything(pair[0], claim(10, at(0), at(0)), 0) != everything(pair[1], claim(10, at(0), at(0)), 0) {
			t.Errorf("nil is not the same as empty: %v", pair)
		}
		wantAll(t, "nil", pair[0], api.ErrArg)
		wantAll(t, "empty", pair[1], api.ErrArg)
	}
}

// numbers are all numbers of some tariffs.
func numbers(l []tariff.Tariff) []*int {
	var all []*int
	add := func(list []int) {
		for i := range list {
			all = append(all, &list[i])
		}
	}
	for i := range l {
		all = append(all, &l[i].From, &l[i].Least)
		add(l[i].Weeks)
		add(l[i].Counts)
		for _, crop := range l[i].Rates {
			for _, rates := range crop {
				add(rates)
			}
		}
	}
	return all
}

// TestAnyArguments calls everything with numbers of any size: nothing panics, and all calls agree on the error of the tariffs (P1, R1).
func TestAnyArguments(t *testing.T) {
	base := []tariff.Tariff{grow(2, 3, 2), later(grow(1, 2, 2))}
	for of := range numbers(base) {
		for _, n := range odd() {
			l := clone(base)
			*numbers(l)[of] = n
			want := checked(l)
			if e := tariff.CheckTariffs(l); e != want {
				t.Errorf("CheckTariffs of %v: %v, not %v", l, e, want)
			}
			if want != api.OK {
				wantAll(t, fmt.Sprint(l), l, want)
			}
			for _, m := range odd() {
				callAll(l, n, m)
				callAll(l, m, n)
			}
		}
	}
}

// callAll uses two numbers in all places.
func callAll(l []tariff.Tariff, n, m int) {
	for _, c := range []tariff.Claim{{}, {Crop: n}, {Value: n, Day: at(m)}, {Day: to(n, m), Count: at(m)}, {Crop: 1, Value: 7, Day: at(n), Count: to(m, n)}} {
		everything(l, c, m)
		tariff.ProvePay(l, c, truth(n, m), m)
	}
	tariff.Part(l, 0, n, m)
	tariff.Part(l, n, m, n)
	tariff.Least(l, n, m)
	tariff.Least(l, 0, m)
	tariff.Misprints(l, n, m, 0)
	tariff.Misprints(l, 0, n, m)
}

// checked is the error of tariffs whose lists are not too long, nor too short, by counting what is not so.
func checked(l []tariff.Tariff) api.Errno {
	bad := 0
	between := func(n, low, high int) {
		if n < low || n > high {
			bad++
		}
	}
	rises := func(list []int, last int) {
		between(list[0], 0, 0)
		for i, n := range list {
			between(n, 0, last)
			if i > 0 && list[i-1] >= n {
				bad++
			}
		}
	}
	var froms []int
	for _, x := range l {
		froms = append(froms, x.From)
		between(x.Least, 0, 100)
		rises(x.Weeks, 120)
		rises(x.Counts, 100)
		between(x.Counts[len(x.Counts)-1], 100, 100)
		for _, crop := range x.Rates {
			for _, n := range slices.Concat(crop...) {
				between(n, 0, 100)
			}
		}
	}
	rises(froms, 120)
	if bad > 0 {
		return api.ErrArg
	}
	return api.OK
}
