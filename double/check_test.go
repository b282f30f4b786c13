package double_test

import (
	"fmt"
	"math"
	"slices"
	"testing"

	"hailstone/api"
	"hailstone/double"
	"hailstone/parcel"
)

// odd are numbers of any size.
func odd() []int {
	return ints(math.MinInt, math.MinInt+1, -1, 0, 1, 2, 3, 4, 5, 9, 10, 50, 51, 99, 100, 101, 999, 1000, 1001, 5000, 5001, math.MaxInt-1, math.MaxInt)
}

// caseCase changes the chapter's case, with two claims, which then has an error, or OK.
type caseCase struct {
	name   string
	change func(c *double.Case)
	want   api.Errno
}

func claimed() double.Case { return chapter(claim(0, 0, 50), claim(1, 0, 50)) }

func checkCases(t *testing.T, cases []caseCase) {
	t.Helper()
	for _, x := range cases {
		c := clone(claimed())
		x.change(&c)
		if e := double.CheckCase(c); e != x.want {
			t.Errorf("%s: CheckCase of %v: %v, not %v", x.name, c, e, x.want)
		}
		if x.want != api.OK {
			wantAll(t, x.name, c, x.want)
		} else {
			ask(t, c)
		}
	}
}

// wantAll checks that each call returns the error of the case, whatever its other arguments are, and nothing else.
func wantAll(t *testing.T, name string, c double.Case, want api.Errno) {
	t.Helper()
	for _, l := range []double.Truth{{}, truth(ints(5), ints(1, 4, 0), 50, 0), truth(ints(), ints(), -1), truth(make([]int, 99), make([]int, 99), 0, make([]int, 99)...)} {
		if pays, n, e := double.Play(c, l); len(pays) > 0 || n != 0 || e != want {
			t.Errorf("%s: Play of %v: %v, %d, %v, not %v", name, l, pays, n, e, want)
		}
	}
	for _, n := range ints(0, 1, 2, -1, math.MaxInt, math.MinInt) {
		for _, high := range []bool{false, true} {
			if l, e := double.Show(c, n, high); !isZero(l) || e != want {
				t.Errorf("%s: Show of %d: %v, %v, not %v", name, n, l, e, want)
			}
		}
	}
	if l, e := double.Bounds(c); len(l) > 0 || e != want {
		t.Errorf("%s: Bounds: %v, %v, not %v", name, l, e, want)
	}
	if r, e := double.Total(c); r != at(0) || e != want {
		t.Errorf("%s: Total: %v, %v, not %v", name, r, e, want)
	}
	if n, e := double.First(c); n != 0 || e != want {
		t.Errorf("%s: First: %d, %v, not %v", name, n, e, want)
	}
	if l, e := double.Leave(c); len(l) > 0 || e != want {
		t.Errorf("%s: Leave: %v, %v, not %v", name, l, e, want)
	}
}

func isZero(t double.Truth) bool {
	return len(t.Book.Days) == 0 && len(t.Book.Sown) == 0 && len(t.Starts) == 0 && t.Loss == 0
}

// TestErrorsOfBook has the first condition of the first row: they come before all others.
func TestErrorsOfBook(t *testing.T) {
	checkCases(t, []caseCase{
		{"as it is", func(c *double.Case) {}, api.OK},
		{"no book", func(c *double.Case) { c.Book = parcel.Book{} }, api.ErrArg},
		{"no case", func(c *double.Case) { *c = double.Case{} }, api.ErrArg},
		{"five owners", func(c *double.Case) { c.Book.Owners = 5 }, api.ErrLimit},
		{"four owners", func(c *double.Case) { c.Book.Owners = 4 }, api.OK},
		{"five parcels", func(c *double.Case) { c.Book.Parcels = make([]parcel.Parcel, 5) }, api.ErrLimit},
		{"four parcels", func(c *double.Case) {
			c.Book.Parcels = append(c.Book.Parcels, make([]parcel.Parcel, 3)...)
		}, api.OK},
		{"seven entries", func(c *double.Case) { c.Book.Entries = make([]parcel.Entry, 7) }, api.ErrLimit},
		{"a bad entry", func(c *double.Case) { c.Book.Entries[0].Kind = 4 }, api.ErrArg},
		{"a bad parcel", func(c *double.Case) { c.Book.Parcels[0].Owner = 2 }, api.ErrArg},
		{"the book's last day is 31", func(c *double.Case) { c.Book.Last = 31 }, api.ErrArg},
		{"too many truths of the book", func(c *double.Case) {
			*c = plain(10, 0)
			c.Book.Parcels = []parcel.Parcel{field(0, 1, 0, 9), field(0, 1, 0, 9), field(0, 1, 0, 9), field(0, 1, 0, 1)}
		}, api.ErrLimit},

		{"a bad entry, and too many societies", func(c *double.Case) { c.Book.Entries[0].Kind, c.Societies = 4, 4 }, api.ErrArg},
		{"a bad parcel, and too many covers", func(c *double.Case) { c.Book.Parcels[0].Value, c.Covers = -1, make([]double.Cover, 6) }, api.ErrArg},
		{"a bad book, and too many claims", func(c *double.Case) { c.Book.Last, c.Claims = -1, make([]double.Claim, 6) }, api.ErrArg},
		{"five owners, and a bad day", func(c *double.Case) { c.Book.Owners, c.Day = 5, -1 }, api.ErrLimit},
		{"too many truths of the book, and no society", func(c *double.Case) {
			*c = plain(10)
			c.Book.Parcels = []parcel.Parcel{field(0, 1, 0, 9), field(0, 1, 0, 9), field(0, 1, 0, 9), field(0, 1, 0, 1)}
		}, api.ErrLimit},
	})
}

// TestTooMany has the second condition of the first row.
func TestTooMany(t *testing.T) {
	checkCases(t, []caseCase{
		{"three societies", func(c *double.Case) { c.Societies = 3 }, api.OK},
		{"four societies", func(c *double.Case) { c.Societies = 4 }, api.ErrLimit},
		{"very many societies", func(c *double.Case) { c.Societies = math.MaxInt }, api.ErrLimit},
		{"no covers", func(c *double.Case) { c.Covers = nil }, api.OK},
		{"five covers", func(c *double.Case) { c.Covers = make([]double.Cover, 5) }, api.OK},
		{"six covers", func(c *double.Case) { c.Covers = make([]double.Cover, 6) }, api.ErrLimit},
		{"very many covers", func(c *double.Case) { c.Covers = make([]double.Cover, 9999) }, api.ErrLimit},
		{"no claims", func(c *double.Case) { c.Claims = nil }, api.OK},
		{"five claims", func(c *double.Case) { c.Claims = make([]double.Claim, 5) }, api.OK},
		{"six claims", func(c *double.Case) { c.Claims = make([]double.Claim, 6) }, api.ErrLimit},
		{"very many claims", func(c *double.Case) { c.Claims = make([]double.Claim, 9999) }, api.ErrLimit},

		{"four societies, and a bad day", func(c *double.Case) { c.Societies, c.Day = 4, 10 }, api.ErrLimit},
		{"six covers, and a bad parcel", func(c *double.Case) { c.Covers, c.Parcel = make([]double.Cover, 6), 1 }, api.ErrLimit},
		{"six claims, and a bad loss", func(c *double.Case) { c.Claims, c.Loss = make([]double.Claim, 6), to(2, 1) }, api.ErrLimit},
		{"six claims, and no societies", func(c *double.Case) { c.Claims, c.Societies = make([]double.Claim, 6), 0 }, api.ErrLimit},
		{"six claims, and a bad cover", func(c *double.Case) { c.Claims, c.Covers[2].Sum = make([]double.Claim, 6), -1 }, api.ErrLimit},
		{"six covers, of which the last one is bad", func(c *double.Case) {
			c.Covers = make([]double.Cover, 6)
			c.Covers[5].Owner = 2
		}, api.ErrLimit},
	})
}

// TestInvalidNumbers has the third condition of the first row, for the numbers that lie between others.
func TestInvalidNumbers(t *testing.T) {
	for _, x := range []struct {
		name        string
		get         func(c *double.Case) *int
		first, last int
	}{
		{"the day", func(c *double.Case) *int { return &c.Day }, 0, 9},
		{"the parcel", func(c *double.Case) *int { return &c.Parcel }, 0, 0},
		{"the parcel, with a Split", func(c *double.Case) *int {
			c.Book.Entries = append(c.Book.Entries, split(0, 1, 6, 6))
			return &c.Parcel
		}, 0, 1},
		{"the society of the first cover", func(c *double.Case) *int { return &c.Covers[0].Society }, 0, 1},
		{"the society of the last cover", func(c *double.Case) *int { return &c.Covers[2].Society }, 0, 1},
		{"the owner of the first cover", func(c *double.Case) *int { return &c.Covers[0].Owner }, 0, 1},
		{"the owner of the last cover", func(c *double.Case) *int { return &c.Covers[2].Owner }, 0, 1},
		{"the parcel of the first cover", func(c *double.Case) *int { return &c.Covers[0].Parcel }, 0, 0},
		{"the parcel of the last cover, with Splits", func(c *double.Case) *int {
			c.Book.Entries = append(c.Book.Entries, split(0, 1, 6, 6), harvest(0, 9, 9), split(1, 1, 7, 7))
			return &c.Covers[2].Parcel
		}, 0, 2},
		{"the sum of the first cover", func(c *double.Case) *int { return &c.Covers[0].Sum }, 0, 1000},
		{"the sum of the last cover", func(c *double.Case) *int { return &c.Covers[2].Sum }, 0, 1000},
		{"the end of the first cover", func(c *double.Case) *int { return &c.Covers[0].Until }, 0, 9},
		{"the end of the last cover", func(c *double.Case) *int { return &c.Covers[2].Until }, 0, 9},
		{"the society of the first claim", func(c *double.Case) *int { return &c.Claims[0].Society }, 0, 1},
		{"the society of the last claim", func(c *double.Case) *int { return &c.Claims[1].Society }, 0, 1},
	} {
		var cases []caseCase
		for _, n := range odd() {
			want := api.ErrArg
			if n >= x.first && n <= x.last {
				want = api.OK
			}
			cases = append(cases, caseCase{fmt.Sprint(x.name, " is ", n), func(c *double.Case) { *x.get(c) = n }, want})
		}
		checkCases(t, cases)
	}
	checkCases(t, []caseCase{
		{"no societies", func(c *double.Case) { *c = plain(100) }, api.ErrArg},
		{"fewer than no societies", func(c *double.Case) { *c = plain(100); c.Societies = -1 }, api.ErrArg},
		{"very few societies", func(c *double.Case) { *c = plain(100); c.Societies = math.MinInt }, api.ErrArg},
		{"one society", func(c *double.Case) { *c = plain(100); c.Societies = 1 }, api.OK},
		{"one society, and a cover of another one", func(c *double.Case) { c.Societies, c.Claims = 1, nil }, api.ErrArg},
		{"one society, and a claim of another one", func(c *double.Case) { c.Societies, c.Covers = 1, nil }, api.ErrArg},
		{"no parcels", func(c *double.Case) { c.Book.Parcels, c.Book.Entries, c.Covers = nil, nil, nil }, api.ErrArg},
		{"a bad day without covers, nor claims", func(c *double.Case) { *c = plain(100); c.Societies, c.Day = 1, 10 }, api.ErrArg},
		{"the last day without covers, nor claims", func(c *double.Case) { *c = plain(100); c.Societies, c.Day = 1, 9 }, api.OK},
		{"a parcel that is there in no truth", func(c *double.Case) { c.Book.Entries, c.Parcel = []parcel.Entry{split(0, 1, 9, 9)}, 1 }, api.OK},
	})
}

// TestInvalidRanges has the third condition of the first row, for each range.
func TestInvalidRanges(t *testing.T) {
	for _, x := range []struct {
		name string
		get  func(c *double.Case) *double.Range
		last int
	}{
		{"the loss", func(c *double.Case) *double.Range { return &c.Loss }, 100},
		{"the first start", func(c *double.Case) *double.Range { return &c.Covers[0].Start }, 9},
		{"the last start", func(c *double.Case) *double.Range { return &c.Covers[2].Start }, 9},
		{"the first claim", func(c *double.Case) *double.Range { return &c.Claims[0].Paid }, 1000},
		{"the last claim", func(c *double.Case) *double.Range { return &c.Claims[1].Paid }, 1000},
	} {
		var cases []caseCase
		for _, low := range odd() {
			for _, high := range odd() {
				want := api.ErrArg
				if low >= 0 && low <= high && high <= x.last {
					want = api.OK
				}
				cases = append(cases, caseCase{fmt.Sprint(x.name, " is ", low, "..", high), func(c *double.Case) { *x.get(c) = to(low, high) }, want})
			}
		}
		checkCases(t, cases)
	}
}

// TestTooManyTruths has the fourth condition of the first row.
func TestTooManyTruths(t *testing.T) {
	wide := func(n int) func(c *double.Case) {
		return func(c *double.Case) {
			*c = plain(100, 30, 40)
			c.Book.Last, c.Loss = 30, to(1, 100)
			c.Covers[0].Start, c.Covers[1].Start = to(0, 9), to(0, n-1)
		}
	}
	with := func(change, more func(c *double.Case)) func(c *double.Case) {
		return func(c *double.Case) {
			change(c)
			more(c)
		}
	}
	fiveWide := func(c *double.Case) {
		*c = plain(100, 30)
		c.Book.Last, c.Loss = 30, to(0, 100)
		for range 4 {
			c.Covers = append(c.Covers, cover(0, 0, 1, 0, 30))
		}
		c.Covers[0].Start = to(0, 30)
	}
	checkCases(t, []caseCase{
		{"2000", wide(2), api.OK},
		{"3000", wide(3), api.ErrLimit},
		{"2001", with(wide(2), func(c *double.Case) {
			c.Loss, c.Covers[0].Start, c.Covers[1].Start = to(1, 69), to(0, 28), at(0)
		}), api.ErrLimit},
		{"2020", with(wide(2), func(c *double.Case) { c.Loss = to(0, 100) }), api.ErrLimit},
		{"2000 and a known day of the book", with(wide(2), func(c *double.Case) { c.Book.Entries = []parcel.Entry{sell(0, 0, 1, 3, 3)} }), api.OK},
		{"2000, times two days of the book", with(wide(2), func(c *double.Case) { c.Book.Entries = []parcel.Entry{sell(0, 0, 1, 3, 4)} }), api.ErrLimit},
		{"2000, times two days on which it was sown", with(wide(2), func(c *double.Case) { c.Book.Parcels[0].Sown = days(3, 4) }), api.ErrLimit},
		{"2000, and wide claims", with(wide(2), func(c *double.Case) {
			c.Claims = []double.Claim{claim(0, 0, 1000), claim(1, 0, 1000), claim(0, 0, 1000), claim(0, 0, 1000), claim(1, 0, 1000)}
		}), api.OK},
		{"1000, times two days of the book", with(wide(1), func(c *double.Case) { c.Book.Entries = []parcel.Entry{sell(0, 0, 1, 3, 4)} }), api.OK},
		{"20, times 100 truths of the book", func(c *double.Case) {
			*c = plain(100, 30)
			c.Book.Entries = []parcel.Entry{sell(0, 0, 1, 0, 9), sell(0, 1, 0, 0, 9)}
			c.Loss = to(1, 20)
		}, api.OK},
		{"21, times 100 truths of the book", func(c *double.Case) {
			*c = plain(100, 30)
			c.Book.Entries = []parcel.Entry{sell(0, 0, 1, 0, 9), sell(0, 1, 0, 0, 9)}
			c.Loss = to(1, 21)
		}, api.ErrLimit},
		{"as many as possible", fiveWide, api.ErrLimit},
		{"as many as possible, and a bad cover", with(fiveWide, func(c *double.Case) { c.Covers[4].Owner = 2 }), api.ErrArg},
		{"as many as possible, and a bad claim", with(fiveWide, func(c *double.Case) { c.Claims = []double.Claim{claim(0, 3, 2)} }), api.ErrArg},
		{"as many as possible, and four societies", with(fiveWide, func(c *double.Case) { c.Societies = 4 }), api.ErrLimit},
	})
}

// TestErrorsOfSettle has the row of Settle.
func TestErrorsOfSettle(t *testing.T) {
	for _, x := range []struct {
		name   string
		amount int
		sums   []int
		want   api.Errno
	}{
		{"no sums", 10, nil, api.ErrArg},
		{"an empty list", 10, ints(), api.ErrArg},
		{"three sums", 10, ints(1, 2, 3), api.OK},
		{"four sums", 10, ints(1, 2, 3, 4), api.ErrLimit},
		{"very many sums", 10, make([]int, 9999), api.ErrLimit},
		{"four sums, and an amount below 0", -1, ints(1, 2, 3, 4), api.ErrLimit},
		{"four sums, of which one is below 0", 10, ints(1, 2, 3, -4), api.ErrLimit},
		{"no sums, and an amount below 0", -1, nil, api.ErrArg},
	} {
		if l, e := double.Settle(x.amount, x.sums); e != x.want || e != api.OK && len(l) > 0 {
			t.Errorf("%s: Settle: %v, %v, not %v", x.name, l, e, x.want)
		}
	}
	for _, n := range odd() {
		for _, m := range odd() {
			for _, sums := range [][]int{ints(m), ints(m, 0), ints(0, m), ints(m, 7, 1), ints(7, m, 1), ints(7, 1, m), ints(m, m, m)} {
				want := api.ErrArg
				if n >= 0 && n <= 1000 && m >= 0 && m <= 5000 {
					want = api.OK
				}
				if l, e := double.Settle(n, sums); e != want || e != api.OK && len(l) > 0 {
					t.Errorf("Settle of %d with %v: %v, %v, not %v", n, sums, l, e, want)
				}
			}
		}
	}
}

// playCase is a truth of the chapter's case, or not.
type playCase struct {
	name string
	c    double.Case
	t    double.Truth
	want api.Errno
}

func checkPlay(t *testing.T, cases []playCase) {
	t.Helper()
	for _, x := range cases {
		l, n, e := double.Play(x.c, x.t)
		if e != x.want || e != api.OK && (len(l) > 0 || n != 0) || e == api.OK && len(l) != x.c.Societies {
			t.Errorf("%s: Play of %v: %v, %d, %v, not %v", x.name, x.t, l, n, e, x.want)
		}
	}
}

// TestErrorsOfPlay has the row of Play.
func TestErrorsOfPlay(t *testing.T) {
	c := chapter()
	good := truth(ints(5), ints(1, 4, 0), 50, 0)
	none := plain(100)
	none.Societies = 1
	wrong := chapter(claim(0, 0, 1000), claim(1, 29, 29))
	checkPlay(t, []playCase{
		{"as it is", c, good, api.OK},
		{"nothing", c, double.Truth{}, api.ErrRange},
		{"no days", c, truth(nil, ints(1, 4, 0), 50, 0), api.ErrRange},
		{"too many days", c, truth(ints(5, 5), ints(1, 4, 0), 50, 0), api.ErrRange},
		{"not sown", c, truth(ints(5), ints(1, 4, 0), 50), api.ErrRange},
		{"sown twice", c, truth(ints(5), ints(1, 4, 0), 50, 0, 0), api.ErrRange},
		{"no starts", c, truth(ints(5), nil, 50, 0), api.ErrRange},
		{"too few starts", c, truth(ints(5), ints(1, 4), 50, 0), api.ErrRange},
		{"too many starts", c, truth(ints(5), ints(1, 4, 0, 0), 50, 0), api.ErrRange},
		{"very many starts", c, truth(ints(5), make([]int, 9999), 50, 0), api.ErrRange},
		{"no covers", none, truth(nil, nil, 100, 0), api.OK},
		{"an empty list without covers", none, truth(ints(), ints(), 100, 0), api.OK},
		{"a start without covers", none, truth(nil, ints(0), 100, 0), api.ErrRange},

		{"a book that contradicts itself", untrue(), good, api.ErrFalse},
		{"a book that contradicts itself, and a bad loss", untrue(), truth(ints(5), ints(1, 4, 0), 51, 0), api.ErrRange},
		{"a book that contradicts itself, and a bad start", untrue(), truth(ints(5), ints(1, 2, 0), 50, 0), api.ErrRange},
		{"a book that contradicts itself, and a bad day", untrue(), truth(ints(6), ints(1, 4, 0), 50, 0), api.ErrRange},
		{"a wrong claim", wrong, good, api.ErrFalse},
		{"a wrong claim, and a bad loss", wrong, truth(ints(5), ints(1, 4, 0), 39, 0), api.ErrRange},
		{"a wrong claim, and a bad start", wrong, truth(ints(5), ints(1, 4, 1), 50, 0), api.ErrRange},
		{"a right claim", chapter(claim(1, 30, 30)), good, api.OK},
		{"a claim below it", chapter(claim(1, 0, 29)), good, api.ErrFalse},
		{"a claim above it", chapter(claim(1, 31, 1000)), good, api.ErrFalse},
		{"a claim up to it", chapter(claim(1, 0, 30)), good, api.OK},
		{"a claim from it on", chapter(claim(1, 30, 1000)), good, api.OK},
		{"both societies change", chapter(claim(1, 20, 20)), good, api.ErrFalse},
	})
	for _, n := range append(odd(), 6, 39, 40, 41) {
		want := func(low, high int) api.Errno {
			if n < low || n > high {
				return api.ErrRange
			}
			return api.OK
		}
		checkPlay(t, []playCase{
			{"the day", c, truth(ints(n), ints(1, 4, 0), 50, 0), want(4, 5)},
			{"sown", c, truth(ints(5), ints(1, 4, 0), 50, n), want(0, 0)},
			{"the first start", c, truth(ints(5), ints(n, 4, 0), 50, 0), want(1, 1)},
			{"the second start", c, truth(ints(5), ints(1, n, 0), 50, 0), want(3, 5)},
			{"the last start", c, truth(ints(5), ints(1, 4, n), 50, 0), want(0, 0)},
			{"the loss", c, truth(ints(5), ints(1, 4, 0), n, 0), want(40, 50)},
		})
	}
}

// TestErrorsOfShow has the row of Show: it comes before those of what has no truth.
func TestErrorsOfShow(t *testing.T) {
	for _, x := range []struct {
		c    double.Case
		want api.Errno
	}{{chapter(), api.OK}, {untrue(), api.ErrFail}, {untrue(claim(0, 51, 51)), api.ErrFail}, {chapter(claim(0, 51, 51)), api.ErrFalse}} {
		for societies := 2; societies <= 3; societies++ {
			for _, n := range odd() {
				want := api.ErrRange
				if n >= 0 && n < societies {
					want = x.want
				}
				x.c.Societies = societies
				for _, high := range []bool{false, true} {
					if l, e := double.Show(x.c, n, high); e != want || isZero(l) != (e != api.OK) {
						t.Errorf("Show of %d of %d societies of %v: %v, %v, not %v", n, societies, x.c, l, e, want)
					}
				}
			}
		}
	}
}

// TestErrorsWithoutATruth has the last three rows.
func TestErrorsWithoutATruth(t *testing.T) {
	for _, x := range []struct {
		name               string
		c                  double.Case
		bounds, first, all api.Errno
	}{
		{"without claims", chapter(), api.OK, api.ErrNone, api.OK},
		{"a right claim", chapter(claim(0, 20, 20)), api.OK, api.ErrNone, api.OK},
		{"a wrong claim", chapter(claim(0, 51, 51)), api.ErrFalse, api.OK, api.OK},
		{"claims that contradict each other", chapter(claim(0, 20, 20), claim(0, 19, 19)), api.ErrFalse, api.OK, api.OK},
		{"the book contradicts itself", untrue(), api.ErrFail, api.ErrFail, api.ErrFail},
		{"the book contradicts itself, and a wrong claim", untrue(claim(0, 51, 51)), api.ErrFail, api.ErrFail, api.ErrFail},
	} {
		bounds, e := double.Bounds(x.c)
		total, f := double.Total(x.c)
		shown, g := double.Show(x.c, 1, true)
		if e != x.bounds || f != x.bounds || g != x.bounds || e != api.OK && (len(bounds) > 0 || total != at(0) || !isZero(shown)) {
			t.Errorf("%s: Bounds, Total, Show: %v, %v; %v, %v; %v, %v, not %v", x.name, bounds, e, total, f, shown, g, x.bounds)
		}
		if n, e := double.First(x.c); e != x.first || e != api.OK && n != 0 {
			t.Errorf("%s: First: %d, %v, not %v", x.name, n, e, x.first)
		}
		if l, e := double.Leave(x.c); e != x.all || e != api.OK && len(l) > 0 {
			t.Errorf("%s: Leave: %v, %v, not %v", x.name, l, e, x.all)
		}
	}
}

// TestEmptyLists checks R3: nil is the same as a list without elements.
func TestEmptyLists(t *testing.T) {
	none := plain(100)
	none.Societies = 2
	empty := none
	empty.Book.Entries, empty.Covers, empty.Claims = []parcel.Entry{}, []double.Cover{}, []double.Claim{}
	nothing := double.Case{Book: parcel.Book{Parcels: []parcel.Parcel{}, Entries: []parcel.Entry{}}, Covers: []double.Cover{}, Claims: []double.Claim{}}
	for _, pair := range [][2]double.Case{{none, empty}, {{}, nothing}} {
		for _, l := range []double.Truth{truth(nil, nil, 100, 0), truth(ints(), ints(), 100, 0)} {
			if a, b := everything(pair[0], l, 0), everything(pair[1], l, 0); a != b {
				t.Errorf("nil is not the same as empty: %s, %s", a, b)
			}
		}
	}
	if a := ask(t, none); !slices.Equal(a.bounds, make([]double.Bound, 2)) || a.total != at(0) || !a.none || len(a.leave) > 0 {
		t.Errorf("a case without covers, nor claims: %v", a)
	}
}

// numbers are all numbers of a case.
func numbers(c *double.Case) []*int {
	b := &c.Book
	list := []*int{&b.Last, &b.Owners, &c.Societies, &c.Day, &c.Parcel, &c.Loss.Lo, &c.Loss.Hi}
	for i := range b.Parcels {
		p := &b.Parcels[i]
		list = append(list, &p.Owner, &p.Value, &p.Sown.Lo, &p.Sown.Hi)
	}
	for i := range b.Entries {
		e := &b.Entries[i]
		list = append(list, &e.Kind, &e.Parcel, &e.Other, &e.From, &e.To, &e.Part, &e.Day.Lo, &e.Day.Hi)
	}
	for i := range c.Covers {
		v := &c.Covers[i]
		list = append(list, &v.Society, &v.Owner, &v.Parcel, &v.Sum, &v.Until, &v.Start.Lo, &v.Start.Hi)
	}
	for i := range c.Claims {
		x := &c.Claims[i]
		list = append(list, &x.Society, &x.Paid.Lo, &x.Paid.Hi)
	}
	return list
}

// TestAnyArguments calls everything with numbers of any size: nothing panics, and all calls agree on the error of the case (P1, R1).
func TestAnyArguments(t *testing.T) {
	base := claimed()
	for of := range numbers(&base) {
		for other := range numbers(&base) {
			for _, n := range odd() {
				c := clone(base)
				*numbers(&c)[of] = n
				*numbers(&c)[other] = n
				want := checked(c)
				if e := double.CheckCase(c); e != want {
					t.Errorf("CheckCase of %v: %v, not %v", c, e, want)
				}
				if want != api.OK {
					wantAll(t, fmt.Sprint(c), c, want)
					continue
				}
				ask(t, c)
				everything(c, truth(ints(n), ints(n, n, n), n, n), n)
				everything(c, truth(ints(4), ints(1, n, 0), 50, 0), n)
			}
		}
	}
}

// checked is the error of a case with at most five covers and claims, by counting what is not so.
func checked(c double.Case) api.Errno {
	if e := parcel.CheckBook(c.Book); e != api.OK {
		return e
	}
	if c.Societies > 3 {
		return api.ErrLimit
	}
	bad := 0
	within := func(n, low, high int) {
		if n < low || n > high {
			bad++
		}
	}
	inOrder := func(r double.Range, last int) {
		within(r.Lo, 0, last)
		within(r.Hi, r.Lo, last)
	}
	last, owners, parcels := c.Book.Last, c.Book.Owners-1, parcelsOf(c.Book)-1
	within(c.Societies, 1, 3)
	within(c.Day, 0, last)
	within(c.Parcel, 0, parcels)
	inOrder(c.Loss, 100)
	for _, v := range c.Covers {
		within(v.Society, 0, c.Societies-1)
		within(v.Owner, 0, owners)
		within(v.Parcel, 0, parcels)
		within(v.Sum, 0, 1000)
		inOrder(v.Start, last)
		within(v.Until, 0, last)
	}
	for _, x := range c.Claims {
		within(x.Society, 0, c.Societies-1)
		inOrder(x.Paid, 1000)
	}
	switch {
	case bad > 0:
		return api.ErrArg
	case numberOf(c) > 2000:
		return api.ErrLimit
	}
	return api.OK
}
