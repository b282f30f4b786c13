package umpire_test

import (
	"fmt"
	"math"
	"slices"
	"testing"

	"hailstone/api"
	"hailstone/tariff"
	"hailstone/umpire"
)

// odd are numbers of any size.
func odd() []int {
	return ints(math.MinInt, math.MinInt+1, -1, 0, 1, 2, 3, 4, 5, 29, 30, 31, 34, 35, 40, 41, 42, 99, 100, 101, 120, 121, 9999, 10000, 10001, 100000, 100001, math.MaxInt-1, math.MaxInt)
}

// caseCase changes the chapter's case, which then has an error, or OK.
type caseCase struct {
	name   string
	change func(c *umpire.Case)
	want   api.Errno
}

func checkCases(t *testing.T, cases []caseCase) {
	t.Helper()
	for _, x := range cases {
		c := clone(chapter())
		x.change(&c)
		if e := umpire.CheckCase(c); e != x.want {
			t.Errorf("%s: CheckCase of %v: %v, not %v", x.name, c, e, x.want)
		}
		if x.want != api.OK {
			wantAll(t, x.name, c, x.want)
		} else {
			ask(t, c)
		}
	}
}

// wantAll checks that each call returns the error of the case, whatever its other arguments are, and nothing else.
func wantAll(t *testing.T, name string, c umpire.Case, want api.Errno) {
	t.Helper()
	for _, l := range [][]umpire.Three{nil, {}, {{}}, threes(three(40, 30, 33), three(20, 17, 0)), lowest(c), make([]umpire.Three, 99)} {
		if r, e := umpire.Play(c, l); r.Counts != nil || r.Award != 0 || r.Farmer != 0 || r.Society != 0 || e != want {
			t.Errorf("%s: Play of %v: %v, %v, not %v", name, l, r, e, want)
		}
		if umpire.ProveAward(c, l, 0) {
			t.Errorf("%s: ProveAward of %v", name, l)
		}
	}
	for _, n := range ints(0, 1, -1, 99, math.MaxInt, math.MinInt) {
		if l, e := umpire.Counts(c, n); len(l) != 0 || e != want {
			t.Errorf("%s: Counts of %d: %v, %v, not %v", name, n, l, e, want)
		}
		if v, e := umpire.Called(c, n); v != 0 || e != want {
			t.Errorf("%s: Called of %d: %d, %v, not %v", name, n, v, e, want)
		}
	}
	if r, e := umpire.Award(c); r != at(0) || e != want {
		t.Errorf("%s: Award: %v, %v, not %v", name, r, e, want)
	}
	if f, s, e := umpire.Fees(c); f != at(0) || s != at(0) || e != want {
		t.Errorf("%s: Fees: %v, %v, %v, not %v", name, f, s, e, want)
	}
	if r, e := umpire.Offers(c); r != at(0) || e != want {
		t.Errorf("%s: Offers: %v, %v, not %v", name, r, e, want)
	}
	if l, e := umpire.Matters(c); len(l) != 0 || e != want {
		t.Errorf("%s: Matters: %v, %v, not %v", name, l, e, want)
	}
}

// lowest has the lowest counts of all fields.
func lowest(c umpire.Case) []umpire.Three {
	var l []umpire.Three
	for _, f := range c.Fields {
		l = append(l, three(f.First.Lo, f.Second.Lo, f.Umpire.Lo))
	}
	return l
}

// TestErrorsOfTariffs has the first condition of the first row: they come before all others.
func TestErrorsOfTariffs(t *testing.T) {
	second := straight()[0]
	second.From = 30
	checkCases(t, []caseCase{
		{"as they are", func(c *umpire.Case) {}, api.OK},
		{"no tariffs", func(c *umpire.Case) { c.Tariffs = nil }, api.ErrArg},
		{"an empty list", func(c *umpire.Case) { c.Tariffs = []tariff.Tariff{} }, api.ErrArg},
		{"no tariffs, nor fields", func(c *umpire.Case) { *c = umpire.Case{} }, api.ErrArg},
		{"a tariff of nothing", func(c *umpire.Case) { c.Tariffs = make([]tariff.Tariff, 1) }, api.ErrArg},
		{"two tariffs", func(c *umpire.Case) { c.Tariffs = append(c.Tariffs, second) }, api.OK},
		{"two tariffs that do not rise", func(c *umpire.Case) { c.Tariffs = append(c.Tariffs, c.Tariffs[0]) }, api.ErrArg},
		{"a tariff of a later day that is not valid", func(c *umpire.Case) { c.Tariffs = append(c.Tariffs, tariff.Tariff{From: 30}) }, api.ErrArg},
		{"a rate below 0", func(c *umpire.Case) { c.Tariffs[0].Rates[0][0][1] = -1 }, api.ErrArg},
		{"a rate of 101", func(c *umpire.Case) { c.Tariffs[0].Rates[0][0][1] = 101 }, api.ErrArg},
		{"a bad Least", func(c *umpire.Case) { c.Tariffs[0].Least = 101 }, api.ErrArg},
		{"four tariffs", func(c *umpire.Case) { c.Tariffs = make([]tariff.Tariff, 4) }, api.ErrLimit},
		{"five weeks", func(c *umpire.Case) { c.Tariffs[0].Weeks = make([]int, 5) }, api.ErrLimit},
		{"six counts", func(c *umpire.Case) { c.Tariffs[0].Counts = make([]int, 6) }, api.ErrLimit},
		{"four crops", func(c *umpire.Case) { c.Tariffs[0].Rates = make([][][]int, 4) }, api.ErrLimit},

		{"no tariffs, and four fields", func(c *umpire.Case) { c.Tariffs, c.Fields = nil, make([]umpire.Field, 4) }, api.ErrArg},
		{"a bad rate, and four fields", func(c *umpire.Case) {
			c.Tariffs[0].Rates[0][0][0], c.Fields = 101, make([]umpire.Field, 4)
		}, api.ErrArg},
		{"four tariffs, and a bad day", func(c *umpire.Case) { c.Tariffs, c.Day = make([]tariff.Tariff, 4), -1 }, api.ErrLimit},
		{"four tariffs, and a bad field", func(c *umpire.Case) { c.Tariffs, c.Fields[0].Near = make([]tariff.Tariff, 4), 101 }, api.ErrLimit},
		{"a bad rate, and a bad fee", func(c *umpire.Case) { c.Tariffs[0].Rates[0][0][0], c.Fee = -1, -1 }, api.ErrArg},
	})
}

// TestTooManyFields has the second condition of the first row.
func TestTooManyFields(t *testing.T) {
	checkCases(t, []caseCase{
		{"no fields", func(c *umpire.Case) { c.Fields = nil }, api.OK},
		{"an empty list", func(c *umpire.Case) { c.Fields = []umpire.Field{} }, api.OK},
		{"one field", func(c *umpire.Case) { c.Fields = c.Fields[1:] }, api.OK},
		{"three fields", func(c *umpire.Case) { c.Fields = append(c.Fields, c.Fields[0]) }, api.OK},
		{"three fields of nothing", func(c *umpire.Case) { c.Fields = make([]umpire.Field, 3) }, api.OK},
		{"four fields", func(c *umpire.Case) { c.Fields = append(c.Fields, c.Fields...) }, api.ErrLimit},
		{"very many fields", func(c *umpire.Case) { c.Fields = make([]umpire.Field, 9999) }, api.ErrLimit},

		{"four fields, and a bad day", func(c *umpire.Case) { c.Fields, c.Day = make([]umpire.Field, 4), -1 }, api.ErrLimit},
		{"four fields, and a bad fee", func(c *umpire.Case) { c.Fields, c.Fee = make([]umpire.Field, 4), 10001 }, api.ErrLimit},
		{"four fields, of which the first one is bad", func(c *umpire.Case) {
			c.Fields = make([]umpire.Field, 4)
			c.Fields[0].Crop = -1
		}, api.ErrLimit},
		{"four fields, of which the last one is bad", func(c *umpire.Case) {
			c.Fields = make([]umpire.Field, 4)
			c.Fields[3].Umpire = to(1, 0)
		}, api.ErrLimit},
	})
}

// twoCrops has tariffs with two crops.
func twoCrops(c *umpire.Case) *umpire.Case {
	c.Tariffs[0].Rates = append(c.Tariffs[0].Rates, [][]int{{50, 60}})
	return c
}

// TestInvalidNumbers has the third condition of the first row, for the numbers that lie between others.
func TestInvalidNumbers(t *testing.T) {
	for _, x := range []struct {
		name string
		get  func(c *umpire.Case) *int
		last int
	}{
		{"the day", func(c *umpire.Case) *int { return &c.Day }, 120},
		{"the fee", func(c *umpire.Case) *int { return &c.Fee }, 10000},
		{"the first crop", func(c *umpire.Case) *int { return &c.Fields[0].Crop }, 0},
		{"the last crop", func(c *umpire.Case) *int { return &c.Fields[1].Crop }, 0},
		{"the crop of two", func(c *umpire.Case) *int { return &twoCrops(c).Fields[1].Crop }, 1},
		{"the first value", func(c *umpire.Case) *int { return &c.Fields[0].Value }, 100000},
		{"the last value", func(c *umpire.Case) *int { return &c.Fields[1].Value }, 100000},
		{"the first Near", func(c *umpire.Case) *int { return &c.Fields[0].Near }, 100},
		{"the last Near", func(c *umpire.Case) *int { return &c.Fields[1].Near }, 100},
	} {
		var cases []caseCase
		for _, n := range odd() {
			want := api.ErrArg
			if n >= 0 && n <= x.last {
				want = api.OK
			}
			cases = append(cases, caseCase{fmt.Sprint(x.name, " is ", n), func(c *umpire.Case) { *x.get(c) = n }, want})
		}
		checkCases(t, cases)
	}
	checkCases(t, []caseCase{
		{"a bad day without fields", func(c *umpire.Case) { c.Fields, c.Day = nil, 121 }, api.ErrArg},
		{"a day below 0 without fields", func(c *umpire.Case) { c.Fields, c.Day = nil, -1 }, api.ErrArg},
		{"a bad fee without fields", func(c *umpire.Case) { c.Fields, c.Fee = nil, 10001 }, api.ErrArg},
		{"the last day without fields", func(c *umpire.Case) { c.Fields, c.Day = nil, 120 }, api.OK},
		{"the third field is bad", func(c *umpire.Case) { c.Fields = append(c.Fields, umpire.Field{Value: -1}) }, api.ErrArg},
	})
}

// TestInvalidRanges has the third condition of the first row, for each range of each field.
func TestInvalidRanges(t *testing.T) {
	for name, get := range map[string]func(f *umpire.Field) *umpire.Range{
		"First":  func(f *umpire.Field) *umpire.Range { return &f.First },
		"Second": func(f *umpire.Field) *umpire.Range { return &f.Second },
		"Umpire": func(f *umpire.Field) *umpire.Range { return &f.Umpire },
	} {
		var cases []caseCase
		for _, low := range append(odd(), 95, 96, 97) {
			for _, high := range append(odd(), 95, 96, 97) {
				want := api.ErrArg
				if low >= 0 && low <= high && high <= 100 && high-low <= 4 {
					want = api.OK
				}
				for i := range 2 {
					cases = append(cases, caseCase{fmt.Sprint(name, " of ", i, " is ", low, "..", high), func(c *umpire.Case) { *get(&c.Fields[i]) = to(low, high) }, want})
				}
			}
		}
		checkCases(t, cases)
	}
}

// TestErrorsOfPlay has the row of Play.
func TestErrorsOfPlay(t *testing.T) {
	c := chapter()
	good := func() []umpire.Three { return threes(three(40, 30, 33), three(20, 17, 0)) }
	for _, x := range []struct {
		name string
		c    umpire.Case
		t    []umpire.Three
		want api.Errno
	}{
		{"as it is", c, good(), api.OK},
		{"nothing", c, nil, api.ErrRange},
		{"an empty list", c, threes(), api.ErrRange},
		{"too few", c, good()[:1], api.ErrRange},
		{"too many", c, append(good(), three(20, 17, 0)), api.ErrRange},
		{"very many", c, make([]umpire.Three, 9999), api.ErrRange},
		{"the other way round", c, threes(good()[1], good()[0]), api.ErrRange},
		{"nothing of no fields", of(31), nil, api.OK},
		{"an empty list of no fields", of(31), threes(), api.OK},
		{"one of no fields", of(31), threes(three(0, 0, 0)), api.ErrRange},
	} {
		r, e := umpire.Play(x.c, x.t)
		if e != x.want || e != api.OK && fmt.Sprint(r) != fmt.Sprint(umpire.Result{}) {
			t.Errorf("%s: Play: %v, %v, not %v", x.name, r, e, x.want)
		}
		if is := umpire.ProveAward(x.c, x.t, r.Award); is != (e == api.OK) {
			t.Errorf("%s: ProveAward: %v", x.name, is)
		}
	}
	for i, f := range c.Fields {
		for _, n := range append(odd(), 16, 17, 18, 19, 20, 21, 32, 33, 36, 37) {
			for _, x := range []struct {
				t  umpire.Three
				is bool
			}{{three(n, f.Second.Lo, f.Umpire.Hi), has(f.First, n)}, {three(f.First.Hi, n, f.Umpire.Lo), has(f.Second, n)}, {three(f.First.Lo, f.Second.Hi, n), has(f.Umpire, n)}} {
				l := good()
				l[i] = x.t
				want := api.ErrRange
				if x.is {
					want = api.OK
				}
				r, e := umpire.Play(c, l)
				if e != want || (len(r.Counts) > 0) != x.is || umpire.ProveAward(c, l, r.Award) != x.is {
					t.Errorf("Play, ProveAward of %v: %v, %v, not %v", l, r, e, want)
				}
			}
		}
	}
}

// TestErrorsOfFields has the row of Counts and Called.
func TestErrorsOfFields(t *testing.T) {
	for fields := range 4 {
		c := of(31, slices.Repeat(chapter().Fields[:1], fields)...)
		for _, n := range odd() {
			want := api.ErrRange
			if n >= 0 && n < fields {
				want = api.OK
			}
			if l, e := umpire.Counts(c, n); e != want || (len(l) > 0) != (e == api.OK) {
				t.Errorf("Counts of %d of %d fields: %v, %v, not %v", n, fields, l, e, want)
			}
			if v, e := umpire.Called(c, n); e != want || (v != 0) != (e == api.OK) {
				t.Errorf("Called of %d of %d fields: %d, %v, not %v", n, fields, v, e, want)
			}
		}
	}
}

// TestEmptyLists checks R3: nil is the same as a list without elements.
func TestEmptyLists(t *testing.T) {
	none := of(31)
	empty := none
	empty.Fields = []umpire.Field{}
	noTariffs := chapter()
	noTariffs.Tariffs = nil
	emptyTariffs := noTariffs
	emptyTariffs.Tariffs = []tariff.Tariff{}
	for _, pair := range [][2]umpire.Case{{none, empty}, {noTariffs, emptyTariffs}, {{}, {Tariffs: []tariff.Tariff{}, Fields: []umpire.Field{}}}} {
		want := everything(pair[0], nil, 0)
		for _, c := range pair {
			for _, l := range [][]umpire.Three{nil, {}} {
				if got := everything(c, l, 0); got != want {
					t.Errorf("nil is not the same as empty: %v: %s, %s", c, got, want)
				}
			}
		}
	}
	if a := ask(t, none); a.award != at(0) || a.offers != at(0) || a.fees != (fees{}) || len(a.matters) != 0 {
		t.Errorf("a case without fields: %v", a)
	}
	if !umpire.ProveAward(none, nil, 0) || umpire.ProveAward(none, nil, 1) || umpire.ProveAward(none, nil, -1) {
		t.Errorf("ProveAward without fields")
	}
}

// numbers are all numbers of a case, but for those of its tariffs.
func numbers(c *umpire.Case) []*int {
	list := []*int{&c.Day, &c.Fee}
	for i := range c.Fields {
		f := &c.Fields[i]
		list = append(list, &f.Crop, &f.Value, &f.Near, &f.First.Lo, &f.First.Hi, &f.Second.Lo, &f.Second.Hi, &f.Umpire.Lo, &f.Umpire.Hi)
	}
	return list
}

// TestAnyArguments calls everything with numbers of any size: nothing panics, and all calls agree on the error of the case (P1, R1).
func TestAnyArguments(t *testing.T) {
	base := chapter()
	for of := range numbers(&base) {
		for other := range numbers(&base) {
			for _, n := range odd() {
				c := clone(base)
				*numbers(&c)[of] = n
				*numbers(&c)[other] = n
				want := checked(c)
				if e := umpire.CheckCase(c); e != want {
					t.Errorf("CheckCase of %v: %v, not %v", c, e, want)
				}
				if want != api.OK {
					wantAll(t, fmt.Sprint(c), c, want)
				}
				for _, l := range [][]umpire.Three{threes(three(n, n, n), three(n, n, n)), threes(three(40, 30, 33), three(n, 17, n)), threes(three(n, 0, n))} {
					everything(c, l, n)
					umpire.ProveAward(c, l, n)
				}
			}
		}
	}
}

// checked is the error of a case with valid tariffs of one crop and at most three fields, by counting what is not so.
func checked(c umpire.Case) api.Errno {
	bad := 0
	within := func(n, low, high int) {
		if n < low || n > high {
			bad++
		}
	}
	within(c.Day, 0, 120)
	within(c.Fee, 0, 10000)
	for _, f := range c.Fields {
		within(f.Crop, 0, 0)
		within(f.Value, 0, 100000)
		within(f.Near, 0, 100)
		for _, r := range []umpire.Range{f.First, f.Second, f.Umpire} {
			within(r.Lo, 0, 100)
			within(r.Hi, 0, 100)
			if bad == 0 {
				within(r.Hi-r.Lo, 0, 4)
			}
		}
	}
	if bad > 0 {
		return api.ErrArg
	}
	return api.OK
}
