package umpire_test

import (
	"fmt"
	"slices"
	"testing"

	"hailstone/api"
	"hailstone/tariff"
	"hailstone/umpire"
)

func TestNumbersOfCalled(t *testing.T) {
	if l := ints(umpire.Always, umpire.Never, umpire.Perhaps); !slices.Equal(l, ints(1, 2, 3)) {
		t.Errorf("the results of Called: %v", l)
	}
}

func TestExamples(t *testing.T) {
	c := chapter()
	for _, x := range []struct {
		truth []umpire.Three
		want  umpire.Result
	}{
		{threes(three(40, 30, 33), three(20, 17, 0)), umpire.Result{Counts: ints(33, 18), Award: 366, Farmer: 31}},
		{threes(three(40, 30, 35), three(20, 17, 0)), umpire.Result{Counts: ints(35, 18), Award: 386, Farmer: 16, Society: 15}},
	} {
		if r, e := umpire.Play(c, x.truth); fmt.Sprint(r) != fmt.Sprint(x.want) || e != api.OK {
			t.Errorf("Play of %v: %v, %v", x.truth, r, e)
		}
	}
	a := ask(t, c)
	want := answers{
		award: to(366, 398), offers: to(335, 429), fees: fees{to(0, 31), to(0, 31)},
		counts: [][]int{{33, 34, 35, 36}, {18, 19}}, called: ints(umpire.Always, umpire.Never), matters: ints(0),
	}
	if fmt.Sprint(a) != fmt.Sprint(want) {
		t.Errorf("the calls return %v, not %v", a, want)
	}
}

// TestPlayOfOneField has P7.1 for each way in which a field can end.
func TestPlayOfOneField(t *testing.T) {
	for _, x := range []struct {
		name                   string
		near                   int
		t                      umpire.Three
		count, farmer, society int
	}{
		{"the document's", 4, three(40, 30, 33), 33, 31, 0},
		{"both are the same", 0, three(40, 40, 90), 40, 0, 0},
		{"just near", 4, three(40, 44, 90), 42, 0, 0},
		{"just near, the other way round", 4, three(44, 40, 90), 42, 0, 0},
		{"just not near", 4, three(40, 45, 44), 44, 31, 0},
		{"just not near, the other way round", 4, three(45, 40, 44), 44, 0, 31},
		{"the middle, rounded down", 5, three(40, 45, 90), 42, 0, 0},
		{"the middle, rounded down to 0", 1, three(0, 1, 90), 0, 0, 0},
		{"the middle of the greatest ones", 1, three(100, 99, 0), 99, 0, 0},
		{"the nearest Near", 0, three(40, 41, 40), 40, 0, 31},
		{"the umpire says more than both", 4, three(30, 40, 41), 40, 31, 0},
		{"the umpire says much more than both", 4, three(30, 40, 100), 40, 31, 0},
		{"the umpire says less than both", 4, three(30, 40, 29), 30, 0, 31},
		{"the umpire says nothing", 4, three(30, 40, 0), 30, 0, 31},
		{"the umpire says what the farmer's adjuster says", 4, three(40, 30, 40), 40, 0, 31},
		{"the umpire says what the society's one says", 4, three(40, 30, 30), 30, 31, 0},
		{"just the middle", 4, three(40, 30, 35), 35, 16, 15},
		{"one more", 4, three(40, 30, 36), 36, 0, 31},
		{"one less", 4, three(40, 30, 34), 34, 31, 0},
		{"no middle, one more", 4, three(41, 30, 36), 36, 0, 31},
		{"no middle, one less", 4, three(41, 30, 35), 35, 31, 0},
		{"far from each other", 99, three(0, 100, 50), 50, 16, 15},
		{"the greatest Near", 100, three(0, 100, 99), 50, 0, 0},
	} {
		c := of(31, field(1000, x.near, at(x.t.First), at(x.t.Second), at(x.t.Umpire)))
		want := umpire.Result{Counts: ints(x.count), Award: 10 * x.count, Farmer: x.farmer, Society: x.society}
		if r, e := umpire.Play(c, threes(x.t)); fmt.Sprint(r) != fmt.Sprint(want) || e != api.OK {
			t.Errorf("%s: Play of %v: %v, %v, not %v", x.name, x.t, r, e, want)
		}
		a := ask(t, c)
		offers := to(want.Award-want.Farmer, want.Award+want.Society)
		if a.award != at(want.Award) || a.fees != (fees{at(want.Farmer), at(want.Society)}) || a.offers != offers || !slices.Equal(a.counts[0], want.Counts) || len(a.matters) != 0 {
			t.Errorf("%s: the calls return %v, not %v", x.name, a, want)
		}
	}
}

// TestPlayOfFees has P7.1 for fields that are lost by different sides.
func TestPlayOfFees(t *testing.T) {
	farmer, society, nobody, none := three(40, 30, 33), three(40, 30, 37), three(40, 30, 35), three(40, 38, 0)
	for _, x := range []struct {
		name            string
		fee             int
		t               []umpire.Three
		farmer, society int
	}{
		{"no fields", 31, nil, 0, 0},
		{"not called", 31, threes(none, none, none), 0, 0},
		{"the farmer loses one", 31, threes(none, farmer, none), 31, 0},
		{"the society loses one", 31, threes(none, none, society), 0, 31},
		{"each loses one", 31, threes(farmer, society), 16, 15},
		{"each loses one, the other way round", 31, threes(society, farmer, none), 16, 15},
		{"nobody loses one", 31, threes(nobody), 16, 15},
		{"nobody loses three", 31, threes(nobody, nobody, nobody), 16, 15},
		{"the farmer loses one, and nobody two", 31, threes(nobody, farmer, nobody), 31, 0},
		{"the society loses one, and nobody two", 31, threes(nobody, nobody, society), 0, 31},
		{"the farmer loses two", 31, threes(farmer, society, farmer), 31, 0},
		{"the society loses two", 31, threes(society, society, farmer), 0, 31},
		{"the farmer loses all", 31, threes(farmer, farmer, farmer), 31, 0},
		{"the society loses all", 31, threes(society, society, society), 0, 31},
		{"each loses one, and nobody one", 31, threes(society, nobody, farmer), 16, 15},
		{"an even fee", 30, threes(society, farmer), 15, 15},
		{"a fee of a penny", 1, threes(nobody), 1, 0},
		{"no fee", 0, threes(farmer, farmer), 0, 0},
		{"no fee to share", 0, threes(farmer, society), 0, 0},
		{"the greatest fee", 10000, threes(farmer, society, society), 0, 10000},
		{"half of the greatest fee", 10000, threes(none, nobody), 5000, 5000},
	} {
		c := known(x.fee, x.t...)
		r, e := umpire.Play(c, x.t)
		if r.Farmer != x.farmer || r.Society != x.society || e != api.OK || !slices.Equal(r.Counts, settledCounts(c, x.t)) {
			t.Errorf("%s: Play of %v: %v, %v, not %d, %d", x.name, x.t, r, e, x.farmer, x.society)
		}
		if a := ask(t, c); a.fees != (fees{at(x.farmer), at(x.society)}) {
			t.Errorf("%s: Fees of %v: %v, not %d, %d", x.name, x.t, a.fees, x.farmer, x.society)
		}
	}
}

// TestAwards has P7.1 and P7.3: each field is paid by its own crop and value, by the tariff of the day.
func TestAwards(t *testing.T) {
	l := []tariff.Tariff{
		{Whole: true, Least: 8, Weeks: ints(0, 10), Counts: ints(0, 50, 100), Rates: [][][]int{{{0, 40, 80}, {0, 25, 100}}, {{0, 100, 0}, {9, 9, 9}}}},
		{From: 30, Least: 10, Weeks: ints(0), Counts: ints(0, 100), Rates: [][][]int{{{0, 90}}, {{100, 0}}}},
	}
	fields := []umpire.Field{field(1050, 0, at(25), at(25), at(0)), field(333, 0, at(25), at(25), at(0)), field(100000, 0, at(100), at(100), at(0))}
	fields[1].Crop = 1
	for _, x := range []struct{ day, want int }{{0, 210 + 166 + 80000}, {9, 210 + 166 + 80000}, {10, 126 + 29 + 100000}, {29, 126 + 29 + 100000}, {30, 126 + 216 + 80000}, {120, 126 + 216 + 80000}} {
		c := umpire.Case{Tariffs: l, Day: x.day, Fields: fields}
		truth := threes(three(25, 25, 0), three(25, 25, 0), three(100, 100, 0))
		if r := playOf(t, c, truth); r.Award != x.want {
			t.Errorf("Play on the day %d: %v, not %d", x.day, r, x.want)
		}
		if a := ask(t, c); a.award != at(x.want) || a.offers != at(x.want) {
			t.Errorf("Award, Offers on the day %d: %v, not %d", x.day, a, x.want)
		}
		for _, n := range ints(x.want-1, x.want, x.want+1, 0, -1) {
			if is := umpire.ProveAward(c, truth, n); is != (n == x.want) {
				t.Errorf("ProveAward of %d on the day %d: %v", n, x.day, is)
			}
		}
	}
}

// TestCountsAndCalled has P7.2.
func TestCountsAndCalled(t *testing.T) {
	for _, x := range []struct {
		name   string
		f      umpire.Field
		want   []int
		called int
	}{
		{"all are known", field(1, 4, at(20), at(30), at(25)), ints(25), umpire.Always},
		{"the same counts", field(1, 0, at(20), at(20), to(10, 14)), ints(20), umpire.Never},
		{"the same ranges", field(1, 4, to(20, 24), to(20, 24), to(10, 14)), ints(20, 21, 22, 23, 24), umpire.Never},
		{"the same ranges, no Near", field(1, 0, to(20, 21), to(20, 21), at(90)), ints(20, 21), umpire.Perhaps},
		{"perhaps just near", field(1, 5, to(20, 21), at(26), to(23, 24)), ints(23, 24), umpire.Perhaps},
		{"perhaps, and a middle of its own", field(1, 5, to(20, 21), at(26), to(20, 21)), ints(20, 21, 23), umpire.Perhaps},
		{"just near", field(1, 6, to(20, 21), at(26), to(20, 21)), ints(23), umpire.Never},
		{"just not near", field(1, 4, to(20, 21), at(26), to(20, 21)), ints(20, 21), umpire.Always},
		{"with gaps", field(1, 20, at(50), to(68, 72), at(90)), ints(59, 60, 71, 72), umpire.Perhaps},
		{"beyond both", field(1, 4, to(20, 22), at(30), to(10, 14)), ints(20, 21, 22), umpire.Always},
		{"above both", field(1, 4, to(20, 22), at(30), to(40, 44)), ints(30), umpire.Always},
		{"partly beyond", field(1, 4, at(20), at(30), to(18, 22)), ints(20, 21, 22), umpire.Always},
		{"partly above", field(1, 4, at(20), at(30), to(28, 32)), ints(28, 29, 30), umpire.Always},
		{"the ends of all", field(1, 0, to(0, 4), to(96, 100), to(0, 4)), ints(0, 1, 2, 3, 4), umpire.Always},
		{"the other ends of all", field(1, 0, to(0, 4), to(96, 100), to(96, 100)), ints(96, 97, 98, 99, 100), umpire.Always},
		{"the greatest Near", field(1, 100, to(0, 4), to(96, 100), to(0, 4)), ints(48, 49, 50, 51, 52), umpire.Never},
		{"nearly the greatest Near", field(1, 99, to(0, 1), to(99, 100), to(4, 7)), ints(4, 5, 6, 7, 49, 50), umpire.Perhaps},
	} {
		c := of(31, chapter().Fields[0], x.f)
		a := ask(t, c)
		if !slices.Equal(a.counts[1], x.want) || a.called[1] != x.called {
			t.Errorf("%s: Counts, Called: %v, %d, not %v, %d", x.name, a.counts[1], a.called[1], x.want, x.called)
		}
		turned := x.f
		turned.First, turned.Second = x.f.Second, x.f.First
		c.Fields[1] = turned
		if other := ask(t, c); fmt.Sprint(other.counts, other.called) != fmt.Sprint(a.counts, a.called) {
			t.Errorf("%s: Counts, Called, the other way round: %v", x.name, other)
		}
	}
}

// TestRanges has P7.3 and P7.4.
func TestRanges(t *testing.T) {
	hill := of(31, field(1000, 4, at(40), at(60), to(48, 52)))
	hill.Tariffs = one(ints(0, 50, 100), ints(0, 90, 0))
	flat := of(31, field(1000, 4, at(40), at(60), to(48, 52)))
	flat.Tariffs = one(ints(0, 45, 50, 100), ints(0, 30, 30, 90))
	for _, x := range []struct {
		name            string
		c               umpire.Case
		award           umpire.Range
		farmer, society umpire.Range
		offers          umpire.Range
		matters         []int
	}{
		{"no fields", of(31), at(0), at(0), at(0), at(0), nil},
		{"the maximum is between", hill, to(860, 900), to(0, 31), to(0, 31), to(829, 915), ints(0)},
		{"some are paid the same", flat, to(300, 320), to(0, 31), to(0, 31), to(279, 331), ints(0)},
		{"the umpire is known", of(31, field(1000, 4, to(40, 41), at(30), at(35))), at(350), to(16, 31), to(0, 15), to(319, 365), nil},
		{"the umpire says more than both", of(31, field(1000, 4, to(40, 41), at(30), to(90, 94))), to(400, 410), at(0), at(31), to(400, 441), nil},
		{"the umpire may say as much", of(31, field(1000, 4, at(40), at(30), to(39, 41))), to(390, 400), at(0), at(31), to(390, 431), ints(0)},
		{"the value is 0", of(31, field(0, 4, at(40), at(30), to(33, 37))), at(0), to(0, 31), to(0, 31), to(-31, 31), nil},
		{"the value is small", of(31, field(10, 4, at(40), at(30), to(33, 37))), at(3), to(0, 31), to(0, 31), to(-28, 34), nil},
		{"a penny matters", of(31, field(10, 4, at(50), at(30), to(37, 41))), to(3, 4), to(0, 31), to(0, 31), to(-28, 35), ints(0)},
		{"the fee is greater than the award", of(10000, field(1000, 4, at(40), at(30), at(33))), at(330), at(10000), at(0), to(-9670, 330), nil},
		{"the society may lose a small award alone", of(100, field(1000, 2, to(10, 12), to(6, 8), at(0))), to(60, 90), to(0, 100), at(0), to(-40, 90), nil},
		{"perhaps called", of(100, field(1000, 5, to(20, 21), at(26), to(20, 21))), to(200, 230), at(0), to(0, 100), to(200, 310), ints(0)},
		{"called if both are far", of(100, field(1000, 5, to(20, 21), at(26), to(25, 26))), to(230, 260), to(0, 100), at(0), to(150, 260), ints(0)},
		{"two matter", of(31, field(100, 4, at(40), at(30), to(33, 34)), field(1, 4, at(40), at(30), to(33, 34)), field(100, 4, at(40), at(30), to(33, 34))), to(66, 68), at(31), at(0), to(35, 68), ints(0, 2)},
		{"the second one matters", of(30, field(0, 4, at(40), at(30), at(37)), field(100, 4, at(40), at(30), to(34, 36))), to(34, 36), to(0, 15), to(15, 30), to(19, 66), ints(1)},
		{"a part below the Least", umpire.Case{Tariffs: []tariff.Tariff{{Whole: true, Least: 36, Weeks: ints(0), Counts: ints(0, 100), Rates: [][][]int{{{0, 100}}}}}, Fee: 31, Fields: []umpire.Field{field(100, 4, at(40), at(30), to(32, 35))}}, at(0), to(16, 31), to(0, 15), to(-31, 15), nil},
	} {
		a := ask(t, x.c)
		if a.award != x.award || a.fees != (fees{x.farmer, x.society}) || a.offers != x.offers || !slices.Equal(a.matters, x.matters) {
			t.Errorf("%s: the calls return %v, not %v", x.name, a, x)
		}
	}
}

// TestGreatest has the case with the most truths, and the greatest numbers.
func TestGreatest(t *testing.T) {
	c := of(10000)
	for range 3 {
		c.Fields = append(c.Fields, field(100000, 0, to(96, 100), to(48, 52), to(72, 76)))
	}
	a := ask(t, c)
	if a.award != to(216000, 228000) || a.fees != (fees{to(0, 10000), to(0, 10000)}) || a.offers != to(206000, 238000) || len(a.matters) != 3 {
		t.Errorf("the calls return %v", a)
	}
	c.Day = 120
	c.Fields[1], c.Fields[2] = field(100000, 100, to(96, 100), to(96, 100), to(0, 4)), field(100000, 99, at(100), at(100), at(100))
	if a := ask(t, c); a.award != to(72000+96000+100000, 76000+100000+100000) || !slices.Equal(a.matters, ints(0)) {
		t.Errorf("the calls return %v", a)
	}
}

// TestMemory checks R4: arguments stay as they were, results can be written to, and equal calls return equal results.
func TestMemory(t *testing.T) {
	for i, c := range append(cases(1, 150), chapter()) {
		arguments := clone(c)
		var truth []umpire.Three
		for l := range truths(c) {
			truth = append(make([]umpire.Three, 0, len(l)+2), l...)
			if i%2 == 0 {
				break
			}
		}
		kept := slices.Clone(truth)
		first := everything(arguments, truth, i%4)
		r := playOf(t, arguments, truth)
		writeTo(r.Counts)
		matters, _ := umpire.Matters(arguments)
		writeTo(matters)
		for n := range c.Fields {
			counts, _ := umpire.Counts(arguments, n)
			writeTo(counts)
		}
		if everything(arguments, truth, i%4) != first {
			t.Fatalf("not the same again: %v", c)
		}
		if !same(arguments, c) || !slices.Equal(truth, kept) || len(truth) > 0 && truth[:len(truth)+1][len(truth)] != three(0, 0, 0) {
			t.Fatalf("written to: %v", c)
		}
	}
}

func writeTo(l []int) {
	for k := range l {
		l[k] = 77
	}
	_ = append(l, 77)
}
