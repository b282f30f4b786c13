package treaty_test

import (
	"fmt"
	"math"
	"slices"
	"testing"

	"hailstone/api"
	"hailstone/treaty"
)

func bound(a, b, c, d int) treaty.Bound { return treaty.Bound{Pays: to(a, b), Keeps: to(c, d)} }

// TestExamples has the examples of the chapter.
func TestExamples(t *testing.T) {
	p := chapter()
	for _, x := range []struct {
		losses, pays []int
		net          int
	}{{ints(100, 300), ints(100, 100, 45), 200}, {ints(120, 300), ints(105, 100, 50), 215}} {
		if l, net := play(t, p, x.losses); !slices.Equal(l, x.pays) || net != x.net {
			t.Errorf("Play of %v: %v, %d", x.losses, l, net)
		}
	}
	a := ask(t, p)
	if want := []treaty.Bound{bound(100, 105, 55, 55), bound(100, 100, 100, 100), bound(45, 50, 45, 50)}; !slices.Equal(a.bounds, want) || a.net != to(200, 215) || !a.none {
		t.Errorf("the calls return %v", a)
	}
	if r, q := kept(t, p, ints(1)), kept(t, p, ints(0)); r != to(300, 320) || q != to(300, 315) {
		t.Errorf("Kept: %v, %v", r, q)
	}
	for _, x := range []struct {
		reserve, price int
		set            []int
		short          bool
	}{{320, 30, ints(1), false}, {315, 50, ints(0), false}, {300, 80, ints(0, 1), false}, {200, 0, nil, true}} {
		p.Reserve = x.reserve
		if a := ask(t, p); !slices.Equal(a.set, x.set) || a.price != x.price || a.short != x.short {
			t.Errorf("Cheapest with %d: %v, %d, %v", x.reserve, a.set, a.price, a.short)
		}
	}
	if a := ask(t, chapter(report(0, 103, 110), report(2, 45, 46))); !a.false || a.first != 1 || !slices.Equal(a.leave, ints(0)) {
		t.Errorf("the calls return %v, with reports", a)
	}
}

// TestExampleOfDocument has the tenth example of the document.
func TestExampleOfDocument(t *testing.T) {
	p := plain(ints(100), quota(25, 0, -1), excess(50, 1000, 0, 0, -1))
	if l, net := play(t, p, ints(100)); !slices.Equal(l, ints(25, 25)) || net != 50 {
		t.Errorf("Play: %v, %d", l, net)
	}
}

// TestOneTreaty has P10.1 and P10.8 for a treaty alone.
func TestOneTreaty(t *testing.T) {
	for _, x := range []struct {
		name   string
		treaty treaty.Treaty
		losses []int
		pays   int
	}{
		{"a Quota of no losses", quota(25, 0, -1), nil, 0},
		{"a Quota of nothing", quota(25, 0, -1), ints(0), 0},
		{"a Quota", quota(25, 0, -1), ints(100), 25},
		{"a Quota, just not one", quota(25, 0, -1), ints(3), 0},
		{"a Quota, just one", quota(25, 0, -1), ints(4), 1},
		{"a Quota that is rounded down", quota(25, 0, -1), ints(7), 1},
		{"the least Quota, just not one", quota(1, 0, -1), ints(99), 0},
		{"the least Quota, just one", quota(1, 0, -1), ints(100), 1},
		{"a Quota of nearly all", quota(99, 0, -1), ints(1), 0},
		{"a Quota of all", quota(100, 0, -1), ints(77), 77},
		{"a Quota of the greatest losses", quota(100, 0, -1), ints(1000, 1000, 1000, 1000), 4000},
		{"a Quota that is rounded for each loss", quota(50, 0, -1), ints(1, 3, 5, 7), 0 + 1 + 2 + 3},
		{"a Quota pays for all losses", quota(10, 0, -1), ints(1000, 0, 1000, 9), 200},

		{"an Excess of no losses", excess(50, 100, 0, 0, -1), nil, 0},
		{"an Excess of nothing", excess(50, 100, 0, 0, -1), ints(0), 0},
		{"an Excess of nothing, above nothing", excess(0, 100, 0, 0, -1), ints(0), 0},
		{"a loss below Above", excess(50, 100, 0, 0, -1), ints(49), 0},
		{"a loss of Above", excess(50, 100, 0, 0, -1), ints(50), 0},
		{"a loss above Above", excess(50, 100, 0, 0, -1), ints(51), 1},
		{"a loss just below the Most", excess(50, 100, 0, 0, -1), ints(149), 99},
		{"a loss up to the Most", excess(50, 100, 0, 0, -1), ints(150), 100},
		{"a loss above the Most", excess(50, 100, 0, 0, -1), ints(151), 100},
		{"a loss far above the Most", excess(50, 100, 0, 0, -1), ints(1000), 100},
		{"a loss far above the Most, with reinstatements", excess(50, 100, 3, 0, -1), ints(1000), 100},
		{"an Excess above nothing", excess(0, 100, 0, 0, -1), ints(7), 7},
		{"an Excess above all", excess(1000, 1000, 3, 0, -1), ints(1000, 1000), 0},
		{"the least Most", excess(0, 1, 0, 0, -1), ints(1000), 1},
		{"the least Most, with reinstatements", excess(0, 1, 2, 0, -1), ints(5, 5, 5, 5), 3},
		{"Above for each loss", excess(50, 100, 3, 0, -1), ints(40, 40, 60, 55), 15},
		{"no reinstatement, half used", excess(50, 100, 0, 0, -1), ints(100, 300), 100},
		{"no reinstatement, just used", excess(50, 100, 0, 0, -1), ints(150, 51), 100},
		{"no reinstatement, nearly used", excess(50, 100, 0, 0, -1), ints(149, 300), 100},
		{"no reinstatement, not used", excess(50, 100, 0, 0, -1), ints(99, 100), 99},
		{"one reinstatement", excess(50, 100, 1, 0, -1), ints(150, 150, 150), 200},
		{"one reinstatement, in parts", excess(50, 100, 1, 0, -1), ints(120, 130, 200), 200},
		{"one reinstatement, not used", excess(50, 100, 1, 0, -1), ints(120, 130), 150},
		{"two reinstatements", excess(50, 100, 2, 0, -1), ints(999, 150, 999, 150), 300},
		{"three reinstatements", excess(50, 100, 3, 0, -1), ints(150, 150, 150, 150), 400},
		{"the greatest Excess", excess(0, 1000, 3, 0, -1), ints(1000, 1000, 1000, 1000), 4000},
		{"the greatest Excess of one loss", excess(0, 1000, 0, 0, -1), ints(1000, 1000), 1000},
	} {
		p := plain(x.losses, x.treaty)
		net := sumOf(x.losses) - x.pays
		if l, n := play(t, p, x.losses); !slices.Equal(l, ints(x.pays)) || n != net {
			t.Errorf("%s: Play: %v, %d, not %d", x.name, l, n, x.pays)
		}
		if a := ask(t, p); !slices.Equal(a.bounds, []treaty.Bound{bound(x.pays, x.pays, x.pays, x.pays)}) || a.net != at(net) {
			t.Errorf("%s: the calls return %v, not %d", x.name, a, x.pays)
		}
		if r, q := kept(t, p, ints(0)), kept(t, p, nil); r != at(net) || q != at(sumOf(x.losses)) {
			t.Errorf("%s: Kept: %v, %v", x.name, r, q)
		}
	}
}

// TestSeveralTreaties has P10.1 and P10.2 for treaties that act one after the other, or protect each other.
func TestSeveralTreaties(t *testing.T) {
	list := func(l ...treaty.Treaty) []treaty.Treaty { return l }
	quotas := func(l ...int) (all []treaty.Treaty) {
		for i := 0; i < len(l); i += 2 {
			all = append(all, quota(l[i], 0, l[i+1]))
		}
		return all
	}
	for _, x := range []struct {
		name        string
		losses      []int
		treaties    []treaty.Treaty
		pays, keeps []int
		net         int
	}{
		{"no treaties", ints(7, 9), nil, nil, nil, 16},
		{"no treaties, nor losses", nil, nil, nil, nil, 0},
		{"no losses", nil, quotas(50, -1, 50, 0), ints(0, 0), ints(0, 0), 0},
		{"first a Quota", ints(100), list(quota(25, 0, -1), excess(50, 100, 0, 0, -1)), ints(25, 25), ints(25, 25), 50},
		{"first an Excess", ints(100), list(excess(50, 100, 0, 0, -1), quota(25, 0, -1)), ints(50, 12), ints(50, 12), 38},
		{"two Quotas", ints(100), quotas(50, -1, 50, -1), ints(50, 25), ints(50, 25), 25},
		{"two Quotas of 50 of 1", ints(1), quotas(50, -1, 50, -1), ints(0, 0), ints(0, 0), 1},
		{"a Quota of nothing that is left", ints(100), quotas(100, -1, 50, -1), ints(100, 0), ints(100, 0), 0},
		{"the same Excess twice", ints(100), list(excess(20, 30, 0, 0, -1), excess(20, 30, 0, 0, -1)), ints(30, 30), ints(30, 30), 40},
		{"one Excess above another one", ints(100), list(excess(50, 999, 0, 0, -1), excess(20, 999, 0, 0, -1)), ints(50, 30), ints(50, 30), 20},
		{"one Excess below another one", ints(100), list(excess(20, 999, 0, 0, -1), excess(50, 999, 0, 0, -1)), ints(80, 0), ints(80, 0), 20},
		{"the next one has more if an Excess is used up", ints(30, 30), list(excess(10, 20, 0, 0, -1), quota(50, 0, -1)), ints(20, 20), ints(20, 20), 20},
		{"bounds apart", ints(30, 30), list(excess(10, 15, 0, 0, -1), excess(10, 7, 0, 0, -1)), ints(15, 7), ints(15, 7), 38},

		{"a Quota of a Quota", ints(100), quotas(50, -1, 50, 0), ints(50, 25), ints(25, 25), 50},
		{"an Excess of a Quota", ints(100), list(quota(50, 0, -1), excess(10, 20, 0, 0, 0)), ints(50, 20), ints(30, 20), 50},
		{"a Quota of an Excess", ints(100), list(excess(10, 20, 0, 0, -1), quota(50, 0, 0)), ints(20, 10), ints(10, 10), 80},
		{"all of a Quota", ints(100), quotas(50, -1, 100, 0), ints(50, 50), ints(0, 50), 50},
		{"a treaty of the society after one of a treaty", ints(100), quotas(50, -1, 50, 0, 50, -1), ints(50, 25, 25), ints(25, 25, 25), 25},
		{"two of the same treaty", ints(100), quotas(100, -1, 50, 0, 50, 0), ints(100, 50, 25), ints(25, 50, 25), 0},
		{"two of the same treaty, apart", ints(100), quotas(100, -1, 50, 0, 50, -1, 50, 0), ints(100, 50, 0, 25), ints(25, 50, 0, 25), 0},
		{"two of different treaties", ints(100), quotas(50, -1, 50, -1, 50, 0, 40, 1), ints(50, 25, 25, 10), ints(25, 15, 25, 10), 25},
		{"two of different treaties, the other way round", ints(100), quotas(50, -1, 50, -1, 40, 1, 50, 0), ints(50, 25, 10, 25), ints(25, 15, 10, 25), 25},
		{"a chain", ints(100), quotas(100, -1, 50, 0, 50, 1, 50, 2, 50, 3), ints(100, 50, 25, 12, 6), ints(50, 25, 13, 6, 6), 0},
		{"a chain, and one more of its beginning", ints(100), quotas(100, -1, 50, 0, 50, 1, 50, 0), ints(100, 50, 25, 25), ints(25, 25, 25, 25), 0},
		{"loss by loss", ints(50, 50), list(quota(50, 0, -1), excess(30, 100, 3, 0, 0)), ints(50, 0), ints(50, 0), 50},
		{"rounded loss by loss", ints(1, 1, 1), quotas(100, -1, 50, 0), ints(3, 0), ints(3, 0), 0},
		{"a bound of the one that protects", ints(6, 6), list(quota(100, 0, -1), excess(0, 10, 0, 0, 0)), ints(12, 10), ints(2, 10), 0},
		{"a bound of the one that is protected", ints(8, 8), list(excess(0, 10, 0, 0, -1), quota(50, 0, 0)), ints(10, 5), ints(5, 5), 6},
		{"bounds of both", ints(8, 8, 8), list(excess(0, 10, 1, 0, -1), excess(2, 5, 1, 0, 0)), ints(20, 10), ints(10, 10), 4},
		{"two of the same treaty, and one of them is used up", ints(10, 10), list(quota(100, 0, -1), excess(0, 6, 0, 0, 0), excess(0, 9, 1, 0, 0)), ints(20, 6, 13), ints(1, 6, 13), 0},
		{"the greatest numbers", ints(1000, 1000, 1000, 1000), quotas(100, -1, 100, 0, 100, 1, 100, 2, 100, 3), ints(4000, 4000, 4000, 4000, 4000), ints(0, 0, 0, 0, 4000), 0},
	} {
		p := plain(x.losses, x.treaties...)
		if l, net := play(t, p, x.losses); !slices.Equal(l, x.pays) || net != x.net {
			t.Errorf("%s: Play: %v, %d, not %v, %d", x.name, l, net, x.pays, x.net)
		}
		a := ask(t, p)
		if len(a.bounds) != len(x.pays) || a.net != at(x.net) {
			t.Errorf("%s: the calls return %v", x.name, a)
			continue
		}
		for i, b := range a.bounds {
			if b.Pays != at(x.pays[i]) || b.Keeps != at(x.keeps[i]) {
				t.Errorf("%s: Bounds of %d: %v, not %d, %d", x.name, i, b, x.pays[i], x.keeps[i])
			}
		}
	}
}

// TestReports has P10.2 and P10.4.
func TestReports(t *testing.T) {
	list := func(l ...treaty.Report) []treaty.Report { return l }
	type want struct{ first, last, net treaty.Range } // what the treaties 0 and 2 pay, and what the society keeps
	full := want{to(100, 105), to(45, 50), to(200, 215)}
	for _, x := range []struct {
		name    string
		reports []treaty.Report
		want    want
		first   int
		leave   []int
	}{
		{"none", nil, full, -1, nil},
		{"one that says nothing", list(report(0, 0, 10000)), full, -1, nil},
		{"one that says what is known", list(report(1, 100, 100)), full, -1, nil},
		{"just all", list(report(0, 100, 105)), full, -1, nil},
		{"not the least number", list(report(0, 101, 105)), want{to(101, 105), to(46, 50), to(203, 215)}, -1, nil},
		{"not the greatest number", list(report(0, 100, 104)), want{to(100, 104), to(45, 49), to(200, 215)}, -1, nil},
		{"at least 103", list(report(0, 103, 110)), want{to(103, 105), to(48, 50), to(209, 215)}, -1, nil},
		{"a single number", list(report(0, 102, 102)), want{at(102), at(47), to(206, 209)}, -1, nil},
		{"a single truth", list(report(0, 105, 105)), want{at(105), at(50), at(215)}, -1, nil},
		{"of a treaty that protects", list(report(2, 50, 60)), want{at(105), at(50), at(215)}, -1, nil},
		{"two of several treaties", list(report(0, 101, 102), report(2, 47, 50)), want{at(102), at(47), to(206, 209)}, -1, nil},
		{"two of one treaty", list(report(0, 101, 103), report(0, 102, 105)), want{to(102, 103), to(47, 48), to(206, 212)}, -1, nil},
		{"the same twice", list(report(2, 47, 47), report(2, 47, 47)), want{at(102), at(47), to(206, 209)}, -1, nil},
		{"five", list(report(0, 101, 105), report(2, 45, 49), report(1, 0, 100), report(0, 0, 102), report(2, 46, 46)), want{at(101), at(46), to(203, 206)}, -1, nil},

		{"above all", list(report(0, 106, 10000)), want{}, 0, ints(0)},
		{"below all", list(report(0, 0, 99)), want{}, 0, ints(0)},
		{"just below what is known", list(report(1, 0, 99)), want{}, 0, ints(0)},
		{"just above what is known", list(report(1, 101, 101)), want{}, 0, ints(0)},
		{"the second one is wrong alone", list(report(0, 104, 104), report(1, 0, 99)), want{}, 1, ints(1)},
		{"the first one is wrong alone", list(report(1, 0, 99), report(0, 104, 104)), want{}, 0, ints(0)},
		{"two that contradict each other", list(report(0, 103, 110), report(2, 45, 46)), want{}, 1, ints(0)},
		{"three that contradict each other", list(report(0, 101, 101), report(0, 102, 102), report(0, 103, 103)), want{}, 1, ints(0, 1)},
		{"two against one", list(report(0, 105, 105), report(0, 101, 101), report(2, 46, 46)), want{}, 1, ints(0)},
		{"one against two", list(report(0, 101, 101), report(2, 46, 46), report(0, 105, 105)), want{}, 2, ints(2)},
		{"the last one is against all", list(report(0, 100, 100), report(2, 45, 45), report(0, 99, 101), report(2, 44, 46), report(2, 50, 50)), want{}, 4, ints(4)},
		{"three of five", list(report(0, 100, 100), report(2, 46, 46), report(0, 102, 102), report(2, 46, 50), report(0, 103, 103)), want{}, 1, ints(0, 1, 2)},
		{"five that are all wrong", list(report(0, 0, 99), report(1, 0, 99), report(2, 0, 44), report(0, 106, 106), report(2, 51, 99)), want{}, 0, ints(0, 1, 2, 3, 4)},
	} {
		p := chapter(x.reports...)
		a := ask(t, p)
		if a.none != (x.first < 0) || a.false && a.first != x.first || !slices.Equal(a.leave, x.leave) {
			t.Errorf("%s: First, Leave: %d, %v", x.name, a.first, a.leave)
		}
		var bounds []treaty.Bound
		if x.first < 0 {
			bounds = []treaty.Bound{{Pays: x.want.first, Keeps: at(55)}, bound(100, 100, 100, 100), {Pays: x.want.last, Keeps: x.want.last}}
		}
		if !slices.Equal(a.bounds, bounds) || a.net != x.want.net {
			t.Errorf("%s: the calls return %v, not %v", x.name, a, x.want)
		}
		if m := modelOf(p); fmt.Sprint(a) != fmt.Sprint(m) {
			t.Errorf("%s: the calls return %v, not %v", x.name, a, m)
		}
		if !slices.Equal(a.set, ask(t, chapter()).set) || kept(t, p, ints(1)) != to(300, 320) {
			t.Errorf("%s: Cheapest or Kept asks about reports: %v", x.name, a)
		}
		if l, net := play(t, p, ints(120, 300)); !slices.Equal(l, ints(105, 100, 50)) || net != 215 {
			t.Errorf("%s: Play asks about reports: %v, %d", x.name, l, net)
		}
	}
}

// TestKept has P10.3.
func TestKept(t *testing.T) {
	p := chapter()
	last := plain(ints(100, 200), quota(50, 0, -1), excess(0, 30, 0, 0, 0), excess(10, 80, 0, 0, -1), quota(10, 0, -1))
	for _, x := range []struct {
		name string
		p    treaty.Programme
		set  []int
		want treaty.Range
	}{
		{"no treaty", p, nil, to(400, 420)},
		{"an empty list", p, ints(), to(400, 420)},
		{"the Quota", p, ints(0), to(300, 315)},
		{"the Excess, which others leave more", p, ints(1), to(300, 320)},
		{"both", p, ints(0, 1), to(200, 215)},
		{"no losses", plain(nil, quota(50, 0, -1)), ints(0), at(0)},
		{"no treaties", plain(ints(7)), nil, at(7)},
		{"before one that protects", last, ints(0), at(150)},
		{"after one that protects", last, ints(2), at(220)},
		{"the last one", last, ints(3), at(270)},
		{"around one that protects", last, ints(0, 2), at(70)},
		{"both after it", last, ints(2, 3), at(220 - 2 - 20)},
		{"all of them", last, ints(0, 2, 3), at(70 - 1 - 6)},
	} {
		if r := kept(t, x.p, x.set); r != x.want {
			t.Errorf("%s: Kept of %v: %v, not %v", x.name, x.set, r, x.want)
		}
	}
}

// reserved gives the programme a Reserve.
func reserved(p treaty.Programme, reserve int) treaty.Programme {
	p.Reserve = reserve
	return p
}

// TestCheapest has the first part of P10.5.
func TestCheapest(t *testing.T) {
	list := func(losses []int, reserve int, l ...treaty.Treaty) treaty.Programme {
		return reserved(plain(losses, l...), reserve)
	}
	for _, x := range []struct {
		name  string
		p     treaty.Programme
		set   []int
		price int
		short bool
	}{
		{"the greatest Reserve", reserved(chapter(), 10000), nil, 0, false},
		{"just no treaty", reserved(chapter(), 420), nil, 0, false},
		{"just not without a treaty", reserved(chapter(), 419), ints(1), 30, false},
		{"just the cheaper one", reserved(chapter(), 320), ints(1), 30, false},
		{"just not the cheaper one", reserved(chapter(), 319), ints(0), 50, false},
		{"just the other one", reserved(chapter(), 315), ints(0), 50, false},
		{"just not the other one", reserved(chapter(), 314), ints(0, 1), 80, false},
		{"just both", reserved(chapter(), 215), ints(0, 1), 80, false},
		{"just not both", reserved(chapter(), 214), nil, 0, true},
		{"no Reserve", reserved(chapter(), 0), nil, 0, true},

		{"no treaties, and enough", list(ints(7), 7), nil, 0, false},
		{"no treaties, and not enough", list(ints(7), 6), nil, 0, true},
		{"no losses", list(nil, 0, quota(50, 0, -1)), nil, 0, false},
		{"all is taken", list(ints(7), 0, quota(100, 1000, -1)), ints(0), 1000, false},
		{"the first of two with a price", list(ints(100), 50, quota(50, 10, -1), quota(50, 10, -1)), ints(0), 10, false},
		{"the first that suffices", list(ints(100), 50, quota(10, 5, -1), quota(50, 5, -1), quota(60, 5, -1)), ints(1), 5, false},
		{"the cheaper one is later", list(ints(100), 50, quota(50, 10, -1), quota(50, 9, -1)), ints(1), 9, false},
		{"the cheaper one does not suffice", list(ints(100), 50, quota(50, 10, -1), quota(49, 9, -1)), ints(0), 10, false},
		{"the shorter one of a price", list(ints(100), 25, quota(50, 5, -1), quota(50, 5, -1), excess(25, 100, 0, 10, -1)), ints(2), 10, false},
		{"the longer one is cheaper", list(ints(100), 25, quota(50, 5, -1), quota(50, 4, -1), excess(25, 100, 0, 10, -1)), ints(0, 1), 9, false},
		{"the shorter one if all are free", list(ints(100), 50, quota(1, 0, -1), quota(50, 0, -1)), ints(1), 0, false},
		{"no treaty if all are free", list(ints(100), 100, quota(1, 0, -1), quota(50, 0, -1)), nil, 0, false},
		{"a free one more is not cheaper", list(ints(100), 50, quota(1, 0, -1), quota(50, 7, -1)), ints(1), 7, false},
		{"the first two of three", list(ints(100), 25, quota(50, 5, -1), quota(50, 5, -1), quota(50, 5, -1)), ints(0, 1), 10, false},
		{"the first and the last one of three", list(ints(100), 25, quota(50, 5, -1), quota(40, 5, -1), quota(50, 5, -1)), ints(0, 2), 10, false},
		{"two of one price, in which one is dearer", list(ints(100), 25, quota(50, 5, -1), quota(50, 7, -1), quota(50, 5, -1), quota(50, 3, -1)), ints(0, 3), 8, false},
		{"all five", list(ints(100), 4, quota(50, 1, -1), quota(50, 2, -1), quota(50, 3, -1), quota(50, 4, -1), quota(50, 5, -1)), ints(0, 1, 2, 3, 4), 15, false},
		{"not one that protects another one", list(ints(100), 90, quota(10, 50, -1), quota(100, 0, 0)), ints(0), 50, false},
		{"one that protects another one does not help", list(ints(100), 89, quota(10, 50, -1), quota(100, 0, 0)), nil, 0, true},
		{"around one that protects another one", list(ints(100), 25, quota(50, 5, -1), quota(100, 0, 0), quota(50, 5, -1)), ints(0, 2), 10, false},
		{"the worst truth counts", treaty.Programme{Losses: ranges(to(0, 100)), Reserve: 50, Treaties: []treaty.Treaty{quota(49, 5, -1), quota(50, 6, -1)}}, ints(1), 6, false},
	} {
		if a := ask(t, x.p); !slices.Equal(a.set, x.set) || a.price != x.price || a.short != x.short {
			t.Errorf("%s: Cheapest: %v, %d, %v, not %v, %d", x.name, a.set, a.price, a.short, x.set, x.price)
		}
		if a, m := ask(t, x.p), modelOf(x.p); fmt.Sprint(a) != fmt.Sprint(m) {
			t.Errorf("%s: the calls return %v, not %v", x.name, a, m)
		}
	}
}

// TestProve has the second part of P10.5.
func TestProve(t *testing.T) {
	wrong := chapter(report(0, 0, 99))
	bad := chapter(report(3, 0, 99))
	for _, x := range []struct {
		name  string
		p     treaty.Programme
		set   []int
		price int
		want  bool
	}{
		{"both, for their prices", reserved(chapter(), 215), ints(0, 1), 80, true},
		{"both, for less", reserved(chapter(), 215), ints(0, 1), 79, false},
		{"both, for more", reserved(chapter(), 215), ints(0, 1), 81, true},
		{"both, for very much", reserved(chapter(), 215), ints(0, 1), math.MaxInt, true},
		{"both, for nothing", reserved(chapter(), 215), ints(0, 1), 0, false},
		{"both, for less than nothing", reserved(chapter(), 215), ints(0, 1), math.MinInt, false},
		{"both do not suffice", reserved(chapter(), 214), ints(0, 1), 80, false},
		{"one does not suffice", reserved(chapter(), 215), ints(0), 80, false},
		{"the cheapest one", reserved(chapter(), 320), ints(1), 30, true},
		{"one that is not the cheapest", reserved(chapter(), 320), ints(0), 50, true},
		{"more than are needed", reserved(chapter(), 320), ints(0, 1), 80, true},
		{"no treaty does not suffice", reserved(chapter(), 320), nil, 80, false},
		{"no treaty", reserved(chapter(), 420), nil, 0, true},
		{"an empty list", reserved(chapter(), 420), ints(), 0, true},
		{"no treaty, for less than nothing", reserved(chapter(), 420), nil, -1, false},
		{"not increasing", reserved(chapter(), 215), ints(1, 0), 80, false},
		{"one twice", reserved(chapter(), 320), ints(0, 0), 100, false},
		{"one that protects another one", reserved(chapter(), 420), ints(2), 100, false},
		{"one more that protects another one", reserved(chapter(), 215), ints(0, 1, 2), 100, false},
		{"one that there is not", reserved(chapter(), 420), ints(3), 100, false},
		{"one below 0", reserved(chapter(), 420), ints(-1), 100, false},
		{"very great numbers", reserved(chapter(), 420), ints(math.MinInt, math.MaxInt), 100, false},
		{"reports that are wrong", reserved(wrong, 215), ints(0, 1), 80, true},
		{"reports that are not valid", reserved(bad, 215), ints(0, 1), 80, false},
		{"a Reserve that is not valid", reserved(chapter(), 10001), ints(0, 1), 80, false},
		{"a Reserve below 0", reserved(chapter(), -1), ints(0, 1), 80, false},
		{"nothing", treaty.Programme{}, nil, 0, true},
	} {
		if is := treaty.Prove(x.p, x.set, x.price); is != x.want {
			t.Errorf("%s: Prove: %v", x.name, is)
		}
	}
}

// TestGreatest has programmes with as many truths as there may be, and the greatest numbers.
func TestGreatest(t *testing.T) {
	many := treaty.Programme{
		Losses:   ranges(to(995, 1000), to(90, 94), to(996, 1000), to(300, 309)),
		Reserve:  0,
		Treaties: []treaty.Treaty{quota(31, 1000, -1), excess(50, 200, 1, 1000, -1), excess(100, 150, 2, 1000, -1), quota(77, 1000, -1), excess(10, 1000, 3, 1000, -1)},
		Reports:  []treaty.Report{report(0, 700, 750), report(1, 0, 400), report(2, 400, 440), report(3, 0, 2000), report(4, 200, 10000)},
	}
	one := plain(nil, quota(100, 1000, -1), excess(0, 1000, 3, 1000, 0), quota(99, 1000, 1), excess(1000, 1, 0, 1000, 2), quota(1, 1000, 0))
	one.Losses, one.Reserve = ranges(to(0, 1000)), 10000
	one.Reports = []treaty.Report{report(0, 10000, 10000), report(0, 0, 500), report(1, 501, 1000), report(2, 0, 0), report(4, 1, 1)}
	for _, p := range []treaty.Programme{many, reserved(many, 10000), reserved(many, 300), unreported(many), one, unreported(one)} {
		if a, m := ask(t, p), modelOf(p); fmt.Sprint(a) != fmt.Sprint(m) {
			t.Errorf("the calls return %v of %v, not %v", a, p, m)
		}
	}
	if numberOf(many) != api.MaxTreatyTruths {
		t.Errorf("%d truths", numberOf(many))
	}
	if a := ask(t, one); a.first != 0 || !slices.Equal(a.leave, ints(0, 2, 4)) || len(a.set) > 0 {
		t.Errorf("the calls return %v", a)
	}
}

// TestMemory checks R4: arguments stay as they were, results can be written to, and equal calls return equal results.
func TestMemory(t *testing.T) {
	for i, p := range append(programmes(1, 150), chapter(), chapter(report(0, 103, 110), report(2, 45, 46))) {
		all, some := truths(p), sets(p)
		arguments, losses, set := clone(p), roomy(all[i%len(all)]), roomy(some[i%len(some)])
		first := everything(arguments, losses, set, i)
		pays, _, _ := treaty.Play(arguments, losses)
		writeTo(pays, 77)
		bounds, _ := treaty.Bounds(arguments)
		writeTo(bounds, bound(7, 7, 7, 7))
		leave, _ := treaty.Leave(arguments)
		writeTo(leave, 77)
		cheapest, _, _ := treaty.Cheapest(arguments)
		writeTo(cheapest, 77)
		if everything(arguments, losses, set, i) != first {
			t.Fatalf("not the same again: %v", p)
		}
		if !same(arguments, p) || !slices.Equal(losses, all[i%len(all)]) || !slices.Equal(set, some[i%len(some)]) || behind(losses)+behind(set) != "[0 0][0 0]" {
			t.Fatalf("written to: %v, %v, %v", p, losses, set)
		}
	}
}

func writeTo[T any](l []T, x T) {
	for k := range l {
		l[k] = x
	}
	_ = append(l, x)
}
