package tariff_test

import (
	"slices"
	"testing"

	"hailstone/api"
	"hailstone/tariff"
)

func TestNumbersOfPaid(t *testing.T) {
	if l := ints(tariff.Always, tariff.Never, tariff.Perhaps); !slices.Equal(l, ints(1, 2, 3)) {
		t.Errorf("the results of Paid: %v", l)
	}
}

func TestExamples(t *testing.T) {
	l := chapter()
	if e := tariff.CheckTariffs(l); e != api.OK {
		t.Errorf("CheckTariffs: %v", e)
	}
	for _, x := range []struct{ day, count, want int }{{5, 25, 20}, {5, 9, 0}, {5, 10, 8}, {12, 25, 12}, {30, 50, 35}, {30, 11, 0}} {
		if n, e := tariff.Part(l, 0, x.day, x.count); n != x.want || e != api.OK {
			t.Errorf("Part on the day %d, count %d: %d, %v", x.day, x.count, n, e)
		}
	}
	if n, e := tariff.Pay(l, claim(1050, at(12), at(25)), truth(12, 25)); n != 126 || e != api.OK {
		t.Errorf("Pay: %d, %v", n, e)
	}
	c := claim(1050, to(9, 12), to(20, 25))
	if r, e := tariff.Bounds(l, c); r != to(105, 210) || e != api.OK {
		t.Errorf("Bounds: %v, %v", r, e)
	}
	if v, e := tariff.Paid(l, c); v != tariff.Always || e != api.OK {
		t.Errorf("Paid: %d, %v", v, e)
	}
	if u, e := tariff.Show(l, c, false); u != truth(10, 20) || e != api.OK {
		t.Errorf("Show of the low end: %v, %v", u, e)
	}
	if u, e := tariff.Show(l, c, true); u != truth(9, 25) || e != api.OK {
		t.Errorf("Show of the high end: %v, %v", u, e)
	}
	for day, want := range map[int]int{5: 10, 12: 16, 30: 13} {
		if n, e := tariff.Least(l, 0, day); n != want || e != api.OK {
			t.Errorf("Least of the day %d: %d, %v", day, n, e)
		}
	}
	if m, e := tariff.Misprints(one(ints(0, 10, 20, 30, 100), ints(0, 40, 30, 35, 50)), 0, 0, 0); !slices.Equal(m, ints(1)) || e != api.OK {
		t.Errorf("Misprints: %v, %v", m, e)
	}
}

// least sets Least and Whole of all tariffs.
func least(l []tariff.Tariff, n int, whole bool) []tariff.Tariff {
	for i := range l {
		l[i].Least, l[i].Whole = n, whole
	}
	return l
}

func TestPart(t *testing.T) {
	crops := chapter()
	crops[0].Rates = append(crops[0].Rates, [][]int{{100, 0, 100}, {0, 0, 77}})
	crops[1].Rates = append(crops[1].Rates, [][]int{{50, 51}})
	days := []tariff.Tariff{grow(4, 2, 1), grow(1, 2, 1), grow(2, 2, 1)}
	days[0].Weeks, days[0].Rates[0] = ints(0, 40, 41, 120), [][]int{{1, 1}, {2, 2}, {3, 3}, {4, 4}}
	days[1].From, days[1].Rates[0] = 50, [][]int{{5, 5}}
	days[2].From, days[2].Weeks, days[2].Rates[0] = 119, ints(0, 120), [][]int{{6, 6}, {7, 7}}
	bent := ints(0, 3, 10, 99, 100)
	for _, x := range []struct {
		name             string
		l                []tariff.Tariff
		crop, day, count int
		want             int
	}{
		{"the first count", straight(), 0, 0, 0, 0},
		{"the last count", straight(), 0, 0, 100, 100},
		{"a rate of the count 0", one(ints(0, 100), ints(9, 9)), 0, 0, 0, 9},
		{"a listed count", one(bent, ints(0, 7, 1, 90, 5)), 0, 0, 3, 7},
		{"a listed count with a lower rate", one(bent, ints(0, 7, 1, 90, 5)), 0, 0, 10, 1},
		{"the last but one", one(bent, ints(0, 7, 1, 90, 5)), 0, 0, 99, 90},
		{"the last of five", one(bent, ints(0, 7, 1, 90, 5)), 0, 0, 100, 5},
		{"between, rounded down", one(bent, ints(0, 7, 1, 90, 5)), 0, 0, 1, 2},
		{"between, rounded down from above", one(bent, ints(0, 7, 1, 90, 5)), 0, 0, 2, 4},
		{"between, where the rates fall", one(bent, ints(0, 7, 1, 90, 5)), 0, 0, 4, 6},
		{"between, rounded down where they fall", one(bent, ints(0, 7, 1, 90, 5)), 0, 0, 9, 1},
		{"between, just below a whole number", one(bent, ints(0, 7, 1, 90, 5)), 0, 0, 98, 89},
		{"the rates are the same", one(bent, ints(4, 4, 4, 4, 4)), 0, 0, 55, 4},
		{"all rates are 0", one(bent, ints(0, 0, 0, 0, 0)), 0, 0, 55, 0},

		{"just the Least, whole", least(straight(), 8, true), 0, 0, 8, 8},
		{"less than the Least, whole", least(straight(), 8, true), 0, 0, 7, 0},
		{"just the Least, not whole", least(straight(), 8, false), 0, 0, 8, 0},
		{"more than the Least, not whole", least(straight(), 8, false), 0, 0, 9, 1},
		{"less than the Least, not whole", least(straight(), 8, false), 0, 0, 7, 0},
		{"all of it, not whole", least(straight(), 8, false), 0, 0, 100, 92},
		{"the Least is 0, whole", least(straight(), 0, true), 0, 0, 5, 5},
		{"the Least is 0, not whole", least(straight(), 0, false), 0, 0, 5, 5},
		{"the Least is 100, whole", least(straight(), 100, true), 0, 0, 100, 100},
		{"nearly the Least of 100, whole", least(straight(), 100, true), 0, 0, 99, 0},
		{"the Least is 100, not whole", least(straight(), 100, false), 0, 0, 100, 0},
		{"the loss is rounded down before it is compared", least(one(ints(0, 100), ints(0, 90)), 10, true), 0, 0, 11, 0},

		{"the second crop", crops, 1, 0, 25, 50},
		{"the second crop in the second week", crops, 1, 10, 75, 38},
		{"the second crop in the second tariff", crops, 1, 30, 100, 41},
		{"the first crop still", crops, 0, 0, 25, 20},

		{"the day 0", days, 0, 0, 0, 1},
		{"the last day of a week", days, 0, 39, 0, 1},
		{"the first day of a week", days, 0, 40, 0, 2},
		{"a week of one day", days, 0, 41, 0, 3},
		{"the last day of a tariff", days, 0, 49, 0, 3},
		{"the first day of a tariff", days, 0, 50, 0, 5},
		{"the last day of the second tariff", days, 0, 118, 0, 5},
		{"the third tariff: weeks are not counted from its From", days, 0, 119, 0, 6},
		{"the last day", days, 0, 120, 0, 7},
		{"the last day is a week", days[:1], 0, 120, 0, 4},
		{"the last tariff goes on", chapter(), 0, 120, 100, 80},
		{"the day before a tariff", chapter(), 0, 29, 100, 100},
	} {
		if n, e := tariff.Part(x.l, x.crop, x.day, x.count); n != x.want || e != api.OK {
			t.Errorf("%s: Part of the crop %d, day %d, count %d: %d, %v, not %d", x.name, x.crop, x.day, x.count, n, e, x.want)
		}
	}
}

func TestPayAndProvePay(t *testing.T) {
	wide := func(value int) tariff.Claim { return claim(value, to(0, 10), to(0, 100)) }
	for _, x := range []struct {
		name  string
		l     []tariff.Tariff
		c     tariff.Claim
		truth tariff.Truth
		want  int
	}{
		{"the document's", straight(), wide(1050), truth(0, 12), 126},
		{"the least value", straight(), wide(0), truth(0, 100), 0},
		{"the greatest value", straight(), wide(100000), truth(0, 100), 100000},
		{"nothing of the greatest value", straight(), wide(100000), truth(0, 0), 0},
		{"a hundredth of the greatest value", straight(), wide(100000), truth(10, 1), 1000},
		{"rounded down to 0", straight(), wide(99), truth(3, 1), 0},
		{"just a penny", straight(), wide(100), truth(3, 1), 1},
		{"rounded down", straight(), wide(199), truth(3, 99), 197},
		{"below the Least", chapter(), wide(1000), truth(5, 9), 0},
		{"the Least", chapter(), wide(1000), truth(5, 10), 80},
		{"the next week", chapter(), wide(1000), truth(10, 100), 1000},
	} {
		n, e := tariff.Pay(x.l, x.c, x.truth)
		if n != x.want || e != api.OK {
			t.Errorf("%s: Pay of %v: %d, %v, not %d", x.name, x.truth, n, e, x.want)
		}
		for _, pence := range ints(x.want-1, x.want, x.want+1, 0, -1) {
			if is := tariff.ProvePay(x.l, x.c, x.truth, pence); is != (pence == x.want) {
				t.Errorf("%s: ProvePay of %v, %d: %v", x.name, x.truth, pence, is)
			}
		}
	}
}

func TestBoundsShowPaid(t *testing.T) {
	hill := one(ints(0, 20, 40, 60, 100), ints(0, 80, 10, 80, 0))
	for _, x := range []struct {
		name      string
		l         []tariff.Tariff
		c         tariff.Claim
		want      tariff.Range
		low, high tariff.Truth
		paid      int
	}{
		{"one day and one count", straight(), claim(300, at(7), at(9)), at(27), truth(7, 9), truth(7, 9), tariff.Always},
		{"the first day counts first", straight(), claim(300, to(7, 9), to(3, 4)), to(9, 12), truth(7, 3), truth(7, 4), tariff.Always},
		{"all are the same", one(ints(0, 100), ints(6, 6)), claim(300, to(7, 17), to(0, 100)), at(18), truth(7, 0), truth(7, 0), tariff.Always},
		{"the ends are not at the ends", hill, claim(100, at(0), to(10, 70)), to(10, 80), truth(0, 40), truth(0, 20), tariff.Always},
		{"the smallest count of several", hill, claim(100, at(0), to(21, 100)), to(0, 80), truth(0, 100), truth(0, 60), tariff.Perhaps},
		{"nothing is paid at either end", hill, claim(100, at(0), to(0, 100)), to(0, 80), truth(0, 0), truth(0, 20), tariff.Perhaps},
		{"below the Least", chapter(), claim(1000, to(0, 9), to(0, 9)), at(0), truth(0, 0), truth(0, 0), tariff.Never},
		{"just the Least", chapter(), claim(1000, to(0, 9), to(0, 10)), to(0, 80), truth(0, 0), truth(0, 10), tariff.Perhaps},
		{"the Least, and never less", chapter(), claim(1000, to(0, 9), to(10, 11)), to(80, 80), truth(0, 10), truth(0, 10), tariff.Always},
		{"nothing in the second week", chapter(), claim(1000, to(9, 10), to(10, 15)), to(0, 120), truth(10, 10), truth(9, 15), tariff.Perhaps},
		{"a later day pays more", chapter(), claim(1000, to(5, 15), to(90, 100)), to(720, 1000), truth(5, 90), truth(10, 100), tariff.Always},
		{"a later tariff pays less", chapter(), claim(1000, to(25, 35), to(90, 100)), to(710, 1000), truth(30, 90), truth(25, 100), tariff.Always},
		{"the value is 0", straight(), claim(0, to(0, 10), to(50, 100)), at(0), truth(0, 50), truth(0, 50), tariff.Never},
		{"a value of a penny", straight(), claim(1, to(0, 10), to(50, 100)), to(0, 1), truth(0, 50), truth(0, 100), tariff.Perhaps},
		{"a part, but no penny", straight(), claim(9, to(0, 10), to(5, 11)), at(0), truth(0, 5), truth(0, 5), tariff.Never},
		{"all that there is", straight(), claim(100000, to(110, 120), to(0, 100)), to(0, 100000), truth(110, 0), truth(110, 100), tariff.Perhaps},
	} {
		if r, e := tariff.Bounds(x.l, x.c); r != x.want || e != api.OK {
			t.Errorf("%s: Bounds: %v, %v, not %v", x.name, r, e, x.want)
		}
		if u, e := tariff.Show(x.l, x.c, false); u != x.low || e != api.OK {
			t.Errorf("%s: Show of the low end: %v, %v, not %v", x.name, u, e, x.low)
		}
		if u, e := tariff.Show(x.l, x.c, true); u != x.high || e != api.OK {
			t.Errorf("%s: Show of the high end: %v, %v, not %v", x.name, u, e, x.high)
		}
		if v, e := tariff.Paid(x.l, x.c); v != x.paid || e != api.OK {
			t.Errorf("%s: Paid: %d, %v, not %d", x.name, v, e, x.paid)
		}
	}
}

func TestLeast(t *testing.T) {
	crops := []tariff.Tariff{grow(2, 2, 2)}
	crops[0].Weeks, crops[0].Rates = ints(0, 7), [][][]int{{{0, 100}, {0, 50}}, {{0, 10}, {0, 1}}}
	for _, x := range []struct {
		name      string
		l         []tariff.Tariff
		crop, day int
		want      int
		e         api.Errno
	}{
		{"the count 0", one(ints(0, 100), ints(5, 0)), 0, 0, 0, api.OK},
		{"the count 1", straight(), 0, 0, 1, api.OK},
		{"the count 100", one(ints(0, 100), ints(0, 1)), 0, 0, 100, api.OK},
		{"none", one(ints(0, 100), ints(0, 0)), 0, 0, 0, api.ErrNone},
		{"none is the Least", least(one(ints(0, 100), ints(0, 99)), 100, true), 0, 0, 0, api.ErrNone},
		{"just the Least", least(straight(), 30, true), 0, 0, 30, api.OK},
		{"more than the Least", least(straight(), 30, false), 0, 0, 31, api.OK},
		{"none is more than the Least", least(straight(), 100, false), 0, 0, 0, api.ErrNone},
		{"the greatest Least", least(straight(), 100, true), 0, 0, 100, api.OK},
		{"greater counts can have none", least(one(ints(0, 20, 40, 100), ints(0, 20, 0, 0)), 15, true), 0, 0, 15, api.OK},
		{"the first crop", crops, 0, 6, 1, api.OK},
		{"the second crop", crops, 1, 6, 10, api.OK},
		{"the second week", crops, 0, 7, 2, api.OK},
		{"the second crop in the second week", crops, 1, 7, 100, api.OK},
		{"the last day of a tariff", chapter(), 0, 29, 16, api.OK},
		{"the last day", chapter(), 0, 120, 13, api.OK},
	} {
		if n, e := tariff.Least(x.l, x.crop, x.day); n != x.want || e != x.e {
			t.Errorf("%s: Least of the crop %d, day %d: %d, %v, not %d, %v", x.name, x.crop, x.day, n, e, x.want, x.e)
		}
	}
}

func TestTotal(t *testing.T) {
	a, b, c := claim(1050, to(9, 12), to(20, 25)), claim(300, at(30), to(0, 50)), claim(0, at(0), at(0))
	for _, x := range []struct {
		claims []tariff.Claim
		want   tariff.Range
	}{
		{nil, at(0)},
		{[]tariff.Claim{}, at(0)},
		{[]tariff.Claim{a}, to(105, 210)},
		{[]tariff.Claim{b}, to(0, 105)},
		{[]tariff.Claim{c}, at(0)},
		{[]tariff.Claim{a, b}, to(105, 315)},
		{[]tariff.Claim{b, a, c}, to(105, 315)},
		{[]tariff.Claim{a, a}, to(210, 420)},
		{[]tariff.Claim{a, b, c, a, b}, to(210, 630)},
		{slices.Repeat([]tariff.Claim{claim(100000, at(10), at(100))}, 5), at(500000)},
	} {
		if r, e := tariff.Total(chapter(), x.claims); r != x.want || e != api.OK {
			t.Errorf("Total of %v: %v, %v, not %v", x.claims, r, e, x.want)
		}
	}
}

func TestMisprints(t *testing.T) {
	for _, x := range []struct {
		name        string
		rates, want []int
	}{
		{"the chapter's", ints(0, 40, 30, 35, 50), ints(1)},
		{"they rise", ints(0, 1, 2, 3, 4), nil},
		{"they are the same", ints(7, 7, 7, 7, 7), nil},
		{"some are the same", ints(0, 0, 5, 5, 100), nil},
		{"two that rise", ints(3, 4), nil},
		{"two that fall", ints(4, 3), ints(0)},
		{"the first is too great", ints(9, 1, 2, 3, 4), ints(0)},
		{"the last is too small", ints(1, 2, 3, 4, 0), ints(4)},
		{"the last is the same as one before", ints(1, 2, 4, 3, 3), ints(2)},
		{"one of two", ints(1, 3, 2, 4), ints(1)},
		{"either one of two that fall", ints(5, 5, 4, 4), ints(0, 1)},
		{"two pairs", ints(2, 1, 4, 3, 5), ints(0, 2)},
		{"two at the end", ints(3, 4, 5, 1, 2), ints(3, 4)},
		{"two at the beginning", ints(4, 5, 1, 2, 3), ints(0, 1)},
		{"all but one", ints(5, 4, 3, 2, 1), ints(0, 1, 2, 3)},
		{"the least and the greatest rate", ints(100, 0, 100, 0, 100), ints(0, 2)},
		{"a zero in the middle", ints(1, 2, 0, 3, 4), ints(2)},
	} {
		counts := append(ints(0, 1, 2, 3)[:len(x.rates)-1], 100)
		if m, e := tariff.Misprints(one(counts, x.rates), 0, 0, 0); !slices.Equal(m, x.want) || e != api.OK {
			t.Errorf("%s: Misprints of %v: %v, %v, not %v", x.name, x.rates, m, e, x.want)
		}
	}
}

// TestMisprintsOfAll asks for each tariff, crop and week of the greatest list, of which only one is wrong.
func TestMisprintsOfAll(t *testing.T) {
	for code := range 3 * 3 * 4 {
		which, crop, week := code/12, code/4%3, code%4
		l := []tariff.Tariff{grow(4, 5, 3), grow(4, 5, 3), grow(4, 5, 3)}
		l[1].From, l[2].From = 1, 2
		l[which].Rates[crop][week][3] = 0
		for other := range 3 * 3 * 4 {
			m, e := tariff.Misprints(l, other/12, other/4%3, other%4)
			if e != api.OK || (other == code) != slices.Equal(m, ints(3)) || (other == code) != (len(m) > 0) {
				t.Errorf("Misprints of %d, with one of %d, %d, %d: %v, %v", other, which, crop, week, m, e)
			}
		}
	}
}

// TestMemory checks R4: arguments stay as they were, results can be written to, and equal calls return equal results.
func TestMemory(t *testing.T) {
	for i, l := range append(lists(1, 40), chapter(), one(ints(0, 1, 2, 100), ints(2, 1, 2, 1))) {
		arguments := clone(l)
		all := roomyClaims(claims(uint64(i), l, 3))
		kept := slices.Clone(all)
		first := everything(arguments, all[0], i%101)
		total, _ := tariff.Total(arguments, all)
		m, e := tariff.Misprints(arguments, 0, 0, 0)
		want := slices.Clone(m)
		for k := range m {
			m[k] = 77
		}
		_ = append(m, 77)
		if m, f := tariff.Misprints(arguments, 0, 0, 0); !slices.Equal(m, want) || e != f {
			t.Fatalf("results share memory: %v", l)
		}
		if again, _ := tariff.Total(arguments, all); again != total {
			t.Fatalf("not the same again: %v, %v", l, all)
		}
		if everything(arguments, all[0], i%101) != first {
			t.Fatalf("not the same again: %v", l)
		}
		if !same(arguments, l) || !slices.Equal(all, kept) || all[:4][3] != (tariff.Claim{}) {
			t.Fatalf("written to: %v", l)
		}
	}
}

func roomyClaims(l []tariff.Claim) []tariff.Claim {
	return append(make([]tariff.Claim, 0, len(l)+2), l...)
}
