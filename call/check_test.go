package call_test

import (
	"fmt"
	"math"
	"math/rand/v2"
	"slices"
	"testing"

	"hailstone/api"
	"hailstone/call"
)

// odd are numbers of any size.
func odd() []int {
	return ints(math.MinInt, math.MinInt+1, -1, 0, 1, 2, 9, 10, 11, 29, 30, 31, 60, 61, 999, 1000, 1001, 99969, 99970, 99999, 100000, 100001, 300000, 300001, math.MaxInt-1, math.MaxInt)
}

// societyCase changes the chapter's society, which then has an error, or OK.
type societyCase struct {
	name   string
	change func(s *call.Society)
	want   api.Errno
}

func checkCases(t *testing.T, cases []societyCase) {
	t.Helper()
	for _, x := range cases {
		s := clone(chapter())
		x.change(&s)
		if e := call.CheckSociety(s); e != x.want {
			t.Errorf("%s: CheckSociety of %v: %v, not %v", x.name, s, e, x.want)
		}
		if x.want != api.OK {
			wantAll(t, x.name, s, x.want)
		} else {
			ask(t, s)
		}
	}
}

// wantAll checks that each call returns the error of the society, whatever its other arguments are, and nothing else.
func wantAll(t *testing.T, name string, s call.Society, want api.Errno) {
	t.Helper()
	for _, u := range []call.Truth{{}, truth(20, 200, 90), truth(-1), truth(0, make([]int, 99)...)} {
		if n, e := call.Need(s, u); n != 0 || e != want {
			t.Errorf("%s: Need of %v: %d, %v, not %v", name, u, n, e, want)
		}
	}
	for _, n := range ints(0, 250, -1, 300001, math.MaxInt, math.MinInt) {
		if l, short, e := call.Calls(s, n); len(l) > 0 || short != 0 || e != want {
			t.Errorf("%s: Calls for %d: %v, %d, %v, not %v", name, n, l, short, e, want)
		}
		for _, l := range [][]int{nil, ints(), ints(0, 0, 0), make([]int, len(s.Members)), ints(n)} {
			if call.ProveCalls(s, n, l) {
				t.Errorf("%s: ProveCalls for %d of %v", name, n, l)
			}
		}
	}
	for _, out := range [][]int{nil, ints(), ints(0), ints(0, 1, 2), ints(2, 1), ints(-1), make([]int, 99)} {
		if l, e := call.Without(s, out); len(l) > 0 || e != want {
			t.Errorf("%s: Without of %v: %v, %v, not %v", name, out, l, e, want)
		}
	}
	if r, e := call.Needs(s); r != at(0) || e != want {
		t.Errorf("%s: Needs: %v, %v, not %v", name, r, e, want)
	}
	if l, e := call.Bounds(s); len(l) > 0 || e != want {
		t.Errorf("%s: Bounds: %v, %v, not %v", name, l, e, want)
	}
	if r, e := call.Short(s); r != at(0) || e != want {
		t.Errorf("%s: Short: %v, %v, not %v", name, r, e, want)
	}
	if n, e := call.Rate(s); n != 0 || e != want {
		t.Errorf("%s: Rate: %d, %v, not %v", name, n, e, want)
	}
	if l, e := call.Missed(s); len(l) > 0 || e != want {
		t.Errorf("%s: Missed: %v, %v, not %v", name, l, e, want)
	}
}

// TestTooMany has the first condition of the first row.
func TestTooMany(t *testing.T) {
	one := member(1, 1, 1)
	checkCases(t, []societyCase{
		{"as it is", func(s *call.Society) {}, api.OK},
		{"one member", func(s *call.Society) { s.Members = s.Members[:1] }, api.OK},
		{"five members", func(s *call.Society) { s.Members = append(s.Members, one, one) }, api.OK},
		{"six members", func(s *call.Society) { s.Members = append(s.Members, s.Members...) }, api.ErrLimit},
		{"very many members", func(s *call.Society) { s.Members = slices.Repeat(members(one), 9999) }, api.ErrLimit},
		{"no losses", func(s *call.Society) { s.Losses = nil }, api.OK},
		{"an empty list of losses", func(s *call.Society) { s.Losses = ranges() }, api.OK},
		{"three losses", func(s *call.Society) { s.Losses = make([]call.Range, 3) }, api.OK},
		{"four losses", func(s *call.Society) { s.Losses = make([]call.Range, 4) }, api.ErrLimit},
		{"very many losses", func(s *call.Society) { s.Losses = make([]call.Range, 9999) }, api.ErrLimit},

		{"six members of nothing", func(s *call.Society) { s.Members = make([]call.Member, 6) }, api.ErrLimit},
		{"six members, of which the last one is bad", func(s *call.Society) {
			s.Members = append(s.Members, one, one, member(1, 0, 0))
		}, api.ErrLimit},
		{"six members, and a bad loss", func(s *call.Society) { s.Members, s.Losses[0] = append(s.Members, s.Members...), to(1, 0) }, api.ErrLimit},
		{"six members, and a bad Treaty", func(s *call.Society) { s.Members, s.Treaty = append(s.Members, s.Members...), at(-1) }, api.ErrLimit},
		{"six members, and a bad Reserve", func(s *call.Society) { s.Members, s.Reserve = append(s.Members, s.Members...), -1 }, api.ErrLimit},
		{"four losses, of which the first one is bad", func(s *call.Society) {
			s.Losses = ranges(to(1, 0), at(0), at(0), at(0))
		}, api.ErrLimit},
		{"four losses, and no members", func(s *call.Society) { s.Losses, s.Members = make([]call.Range, 4), nil }, api.ErrLimit},
		{"four losses, and a bad member", func(s *call.Society) { s.Losses, s.Members[0].Sum = make([]call.Range, 4), 0 }, api.ErrLimit},
		{"four losses, and a bad Reserve", func(s *call.Society) { s.Losses, s.Reserve = make([]call.Range, 4), 100001 }, api.ErrLimit},
	})
}

// TestInvalidNumbers has the second condition of the first row, for the numbers that lie between others.
func TestInvalidNumbers(t *testing.T) {
	for _, x := range []struct {
		name        string
		get         func(s *call.Society) *int
		first, last int
	}{
		{"the sum of the first member", func(s *call.Society) *int { return &s.Members[0].Sum }, 1, 1000},
		{"the sum of the last member", func(s *call.Society) *int { return &s.Members[2].Sum }, 1, 1000},
		{"the class of the first member", func(s *call.Society) *int { return &s.Members[0].Class }, 1, 10},
		{"the class of the last member", func(s *call.Society) *int { return &s.Members[2].Class }, 1, 10},
		{"the most of the first member", func(s *call.Society) *int { return &s.Members[0].Most }, 0, 100000},
		{"the most of the last member", func(s *call.Society) *int { return &s.Members[2].Most }, 0, 100000},
		{"the reserve", func(s *call.Society) *int { return &s.Reserve }, 0, 100000},
		{"the reserve, without losses", func(s *call.Society) *int {
			s.Losses = nil
			return &s.Reserve
		}, 0, 100000},
	} {
		var cases []societyCase
		for _, n := range odd() {
			want := api.ErrArg
			if n >= x.first && n <= x.last {
				want = api.OK
			}
			cases = append(cases, societyCase{fmt.Sprint(x.name, " is ", n), func(s *call.Society) { *x.get(s) = n }, want})
		}
		checkCases(t, cases)
	}
	checkCases(t, []societyCase{
		{"nothing", func(s *call.Society) { *s = call.Society{} }, api.ErrArg},
		{"no members", func(s *call.Society) { s.Members = nil }, api.ErrArg},
		{"an empty list of members", func(s *call.Society) { s.Members = members() }, api.ErrArg},
		{"a member of nothing", func(s *call.Society) { s.Members = make([]call.Member, 1) }, api.ErrArg},
		{"the least member alone", func(s *call.Society) { *s = call.Society{Members: equal(0)} }, api.OK},
	})
}

// TestInvalidRanges has the second condition of the first row, for each range.
func TestInvalidRanges(t *testing.T) {
	for _, x := range []struct {
		name string
		get  func(s *call.Society) *call.Range
	}{
		{"the first loss", func(s *call.Society) *call.Range { return &s.Losses[0] }},
		{"the last loss", func(s *call.Society) *call.Range { return &s.Losses[1] }},
		{"the treaty", func(s *call.Society) *call.Range { return &s.Treaty }},
		{"the treaty, without losses", func(s *call.Society) *call.Range {
			s.Losses = nil
			return &s.Treaty
		}},
	} {
		var cases []societyCase
		for _, low := range odd() {
			for _, high := range odd() {
				want := api.ErrArg
				if low >= 0 && low <= high && high <= 100000 && high-low <= 30 {
					want = api.OK
				}
				cases = append(cases, societyCase{fmt.Sprint(x.name, " is ", low, "..", high), func(s *call.Society) { *x.get(s) = to(low, high) }, want})
			}
		}
		checkCases(t, cases)
	}
}

// TestErrorsOfNeed has the row of Need.
func TestErrorsOfNeed(t *testing.T) {
	none := chapter()
	none.Losses = nil
	for _, x := range []struct {
		name string
		s    call.Society
		u    call.Truth
		want api.Errno
	}{
		{"the least numbers", chapter(), truth(20, 200, 90), api.OK},
		{"the greatest numbers", chapter(), truth(25, 210, 90), api.OK},
		{"nothing", chapter(), call.Truth{}, api.ErrRange},
		{"no losses", chapter(), truth(20), api.ErrRange},
		{"an empty list", chapter(), truth(20, ints()...), api.ErrRange},
		{"one loss too few", chapter(), truth(20, 200), api.ErrRange},
		{"one loss too many", chapter(), truth(20, 200, 90, 0), api.ErrRange},
		{"very many losses", chapter(), truth(20, make([]int, 9999)...), api.ErrRange},
		{"no losses of none", none, truth(20), api.OK},
		{"an empty list of none", none, truth(20, ints()...), api.OK},
		{"a loss of none", none, truth(20, 0), api.ErrRange},
		{"none, and a treaty outside", none, truth(19), api.ErrRange},
	} {
		if n, e := call.Need(x.s, x.u); e != x.want || e != api.OK && n != 0 {
			t.Errorf("%s: Need in %v: %d, %v, not %v", x.name, x.u, n, e, x.want)
		}
	}
	for _, n := range append(odd(), 19, 20, 21, 24, 25, 26, 89, 90, 91, 199, 200, 201, 209, 210, 211) {
		for _, x := range []struct {
			u     call.Truth
			isOne bool
		}{
			{truth(20, n, 90), n >= 200 && n <= 210},
			{truth(20, 200, n), n == 90},
			{truth(n, 200, 90), n >= 20 && n <= 25},
		} {
			m, e := call.Need(chapter(), x.u)
			if x.isOne && e != api.OK || !x.isOne && (m != 0 || e != api.ErrRange) {
				t.Errorf("Need in %v: %d, %v", x.u, m, e)
			}
		}
	}
}

// TestErrorsOfCalls has the row of Calls, and ProveCalls for needs that are not valid.
func TestErrorsOfCalls(t *testing.T) {
	for _, n := range append(odd(), 299999) {
		l, short, e := call.Calls(chapter(), n)
		switch {
		case n >= 0 && n <= 300000:
			if e != api.OK || len(l) != 3 || !call.ProveCalls(chapter(), n, l) {
				t.Errorf("Calls for %d: %v, %d, %v", n, l, short, e)
			}
		case e != api.ErrRange || len(l) > 0 || short != 0:
			t.Errorf("Calls for %d: %v, %d, %v", n, l, short, e)
		}
		for _, list := range [][]int{nil, ints(), ints(0, 0, 0), ints(500, 60, 500)} {
			if is := call.ProveCalls(chapter(), n, list); is && !slices.Equal(list, l) || is && e != api.OK {
				t.Errorf("ProveCalls for %d of %v", n, list)
			}
		}
	}
}

// TestErrorsOfWithout has the row of Without.
func TestErrorsOfWithout(t *testing.T) {
	for _, x := range []struct {
		name string
		out  []int
		want api.Errno
	}{
		{"nil", nil, api.OK},
		{"an empty list", ints(), api.OK},
		{"all", ints(0, 1, 2), api.OK},
		{"some", ints(0, 2), api.OK},
		{"one twice", ints(1, 1), api.ErrRange},
		{"one twice at the end", ints(0, 1, 1), api.ErrRange},
		{"decreasing", ints(1, 0), api.ErrRange},
		{"decreasing at the end", ints(0, 2, 1), api.ErrRange},
		{"one too many", ints(0, 1, 2, 3), api.ErrRange},
		{"one below 0", ints(-1, 0), api.ErrRange},
		{"one after the last one", ints(2, 3), api.ErrRange},
		{"very many", make([]int, 9999), api.ErrRange},
		{"of any size", odd(), api.ErrRange},
	} {
		if l, e := call.Without(chapter(), x.out); e != x.want || e != api.OK && len(l) > 0 || e == api.OK && len(l) != 3 {
			t.Errorf("%s: Without of %v: %v, %v, not %v", x.name, x.out, l, e, x.want)
		}
	}
	for _, n := range odd() {
		want := api.ErrRange
		if n >= 0 && n <= 2 {
			want = api.OK
		}
		if l, e := call.Without(chapter(), ints(n)); e != want || e != api.OK && len(l) > 0 {
			t.Errorf("Without of %d: %v, %v, not %v", n, l, e, want)
		}
	}
}

// TestErrorsOfRate has the rows of Rate and Missed.
func TestErrorsOfRate(t *testing.T) {
	for _, x := range []struct {
		name         string
		s            call.Society
		rate, missed api.Errno
	}{
		{"the chapter's society", chapter(), api.OK, api.OK},
		{"nothing is needed", plain(at(0), equal(5)...), api.OK, api.ErrNone},
		{"nothing is needed, and nobody pays", plain(at(0), equal(0, 0)...), api.OK, api.ErrNone},
		{"a penny is needed in some truth", plain(to(0, 1), equal(5)...), api.OK, api.OK},
		{"a penny, and nobody pays", plain(to(0, 1), equal(0, 0)...), api.ErrShort, api.OK},
		{"the Reserve is enough", call.Society{Members: equal(5), Losses: ranges(to(0, 7)), Reserve: 7}, api.OK, api.ErrNone},
		{"the Reserve is not enough", call.Society{Members: equal(5), Losses: ranges(to(0, 8)), Reserve: 7}, api.OK, api.OK},
		{"as much as all can pay", plain(at(10), equal(4, 6)...), api.OK, api.OK},
		{"more than all can pay", plain(at(11), equal(4, 6)...), api.ErrShort, api.OK},
		{"more than all can pay in some truth", plain(to(10, 11), equal(4, 6)...), api.ErrShort, api.OK},
		{"as much as the greatest rate", plain(at(100), equal(100000)...), api.OK, api.OK},
		{"more than the greatest rate", plain(at(101), equal(100000)...), api.ErrShort, api.OK},
	} {
		n, e := call.Rate(x.s)
		l, f := call.Missed(x.s)
		if e != x.rate || e != api.OK && n != 0 || f != x.missed || f != api.OK && len(l) > 0 {
			t.Errorf("%s: Rate, Missed of %v: %d, %v; %v, %v, not %v, %v", x.name, x.s, n, e, l, f, x.rate, x.missed)
		}
	}
}

// TestAnyArguments checks P1 with numbers of any size everywhere.
func TestAnyArguments(t *testing.T) {
	r := rand.New(rand.NewPCG(1, 9))
	some := func() int { return odd()[r.IntN(len(odd()))] }
	list := func(most int) []int {
		var l []int
		for range r.IntN(most + 1) {
			l = append(l, some())
		}
		return l
	}
	valid := 0
	for range 3000 {
		s := call.Society{Treaty: at(r.IntN(2)), Reserve: r.IntN(2)}
		for range r.IntN(8) {
			s.Members = append(s.Members, member(1, 1, some()))
		}
		for range r.IntN(5) {
			s.Losses = append(s.Losses, at(some()))
		}
		switch r.IntN(8) {
		case 0:
			s.Treaty = to(some(), some())
		case 1:
			s.Reserve = some()
		case 2:
			s.Members = append(s.Members, member(some(), some(), some()))
		}
		everything(s, truth(some(), list(4)...), some(), list(6))
		if call.CheckSociety(s) == api.OK {
			valid++
		}
	}
	if valid < 30 {
		t.Errorf("%d valid societies", valid)
	}
}
