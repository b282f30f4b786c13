package umpire_test

import (
	"fmt"
	"math/rand/v2"
	"slices"
	"testing"

	"hailstone/api"
	"hailstone/umpire"
)

// TestCases checks that there are enough cases of each sort for the other tests.
func TestCases(t *testing.T) {
	sorts := map[string]int{}
	for _, c := range cases(2, 300) {
		if e := umpire.CheckCase(c); e != api.OK {
			t.Fatalf("CheckCase of %v: %v", c, e)
		}
		m := modelOf(c)
		always, perhaps := slices.Contains(m.called, umpire.Always), slices.Contains(m.called, umpire.Perhaps)
		for sort, is := range map[string]bool{
			"no fields":              len(c.Fields) == 0,
			"three fields":           len(c.Fields) == 3,
			"always":                 always,
			"perhaps":                perhaps,
			"never":                  slices.Contains(m.called, umpire.Never),
			"never for all":          len(c.Fields) > 0 && !always && !perhaps,
			"matters":                len(m.matters) > 0,
			"matters for some":       len(m.matters) > 0 && len(m.matters) < len(c.Fields),
			"called, and no matter":  (always || perhaps) && len(m.matters) == 0,
			"either pays":            c.Fee > 0 && m.farmer.Hi == c.Fee && m.society.Hi == c.Fee,
			"the farmer always pays": m.farmer.Lo > 0,
			"nobody pays all":        c.Fee > 1 && m.farmer.Hi > 0 && m.farmer.Hi < c.Fee,
			"offers below 0":         m.offers().Lo < 0,
			"offers apart":           m.offers().Lo != m.award.Lo-m.farmer.Hi || m.offers().Hi != m.award.Hi+m.society.Hi,
			"nothing is awarded":     len(c.Fields) > 0 && m.award.Hi == 0,
			"awards differ":          m.award.Lo < m.award.Hi,
		} {
			if is {
				sorts[sort]++
			}
		}
	}
	for sort, least := range map[string]int{"no fields": 20, "three fields": 20, "always": 50, "perhaps": 50, "never": 50, "never for all": 20, "matters": 60, "matters for some": 50, "called, and no matter": 20, "either pays": 30, "the farmer always pays": 10, "nobody pays all": 10, "offers below 0": 20, "offers apart": 30, "nothing is awarded": 5, "awards differ": 100} {
		if sorts[sort] < least {
			t.Errorf("%s: %d", sort, sorts[sort])
		}
	}
}

// TestModel checks P7.2 to P7.4.
func TestModel(t *testing.T) {
	for _, c := range cases(3, 500) {
		m, a := modelOf(c), ask(t, c)
		want := answers{award: m.award.Range, offers: m.offers(), fees: fees{m.farmer.Range, m.society.Range}, counts: m.counts, called: m.called, matters: m.matters}
		if fmt.Sprint(a) != fmt.Sprint(want) {
			t.Fatalf("the calls return %v of %v, not %v", a, c, want)
		}
	}
}

// TestWidest checks P7.2 to P7.4 with ranges that are as wide as they can be.
func TestWidest(t *testing.T) {
	r := rand.New(rand.NewPCG(4, 4))
	for range 30 {
		c := umpire.Case{Tariffs: someTariffs(r, 1), Day: r.IntN(80), Fee: r.IntN(400)}
		for range 2 {
			a := r.IntN(90)
			b := min(96, a+r.IntN(10))
			u := a + r.IntN(b-a+1)
			c.Fields = append(c.Fields, field(r.IntN(2000), r.IntN(6), to(a, a+4), to(b, b+4), to(u, u+4)))
		}
		m, a := modelOf(c), ask(t, c)
		want := answers{award: m.award.Range, offers: m.offers(), fees: fees{m.farmer.Range, m.society.Range}, counts: m.counts, called: m.called, matters: m.matters}
		if fmt.Sprint(a) != fmt.Sprint(want) {
			t.Fatalf("the calls return %v of %v, not %v", a, c, want)
		}
	}
}

// TestPlayOfModel checks P7.1 and P7.7 in each truth.
func TestPlayOfModel(t *testing.T) {
	for _, c := range cases(5, 150) {
		p := paysOf(c)
		for l := range truths(c) {
			want := resultOf(c, p, l)
			r := playOf(t, c, l)
			if !slices.Equal(r.Counts, settledCounts(c, l)) || r.Award != want.Award || r.Farmer != want.Farmer || r.Society != want.Society {
				t.Fatalf("Play of %v, %v: %v, not %v, %v", c, l, r, want, settledCounts(c, l))
			}
			if !umpire.ProveAward(c, l, r.Award) || umpire.ProveAward(c, l, r.Award+1) || umpire.ProveAward(c, l, r.Award-1) {
				t.Fatalf("ProveAward of %v, %v, %d", c, l, r.Award)
			}
		}
	}
}

// TestInEachTruth checks P7.5, P7.6 and P7.10 by the calls alone.
func TestInEachTruth(t *testing.T) {
	for _, c := range cases(6, 200) {
		a := ask(t, c)
		var award, farmer, society, net, cost bounds
		var seen [3][101]bool
		for l := range truths(c) {
			r := playOf(t, c, l)
			award.add(r.Award)
			farmer.add(r.Farmer)
			society.add(r.Society)
			net.add(r.Award - r.Farmer)
			cost.add(r.Award + r.Society)
			for i, n := range r.Counts {
				seen[i][n] = true
				if low, high := min(l[i].First, l[i].Second), max(l[i].First, l[i].Second); !has(to(low, high), n) {
					t.Fatalf("Play of %v, %v: %v", c, l, r)
				}
			}
			if sum := r.Farmer + r.Society; sum != 0 && sum != c.Fee {
				t.Fatalf("Play of %v, %v: %v", c, l, r)
			}
		}
		if a.award != award.Range || a.fees != (fees{farmer.Range, society.Range}) || a.offers != to(net.Lo, cost.Hi) {
			t.Fatalf("the calls return %v of %v, not %v, %v, %v, %v, %v", a, c, award, farmer, society, net, cost)
		}
		for i := range c.Fields {
			for n, is := range seen[i] {
				if is != slices.Contains(a.counts[i], n) {
					t.Fatalf("Counts of %v, %d: %v, and %d is settled: %v", c, i, a.counts[i], n, is)
				}
			}
		}
	}
}

// TestSameCounts checks P7.6: whatever the umpire says, adjusters who say the same settle it.
func TestSameCounts(t *testing.T) {
	for count := range 101 {
		for near := range 3 {
			for said := range 101 {
				c := of(31, field(1000, near, at(count), at(count), at(said)))
				if r := playOf(t, c, threes(three(count, count, said))); r.Counts[0] != count || r.Farmer != 0 || r.Society != 0 {
					t.Fatalf("Play of %v: %v", c, r)
				}
			}
		}
	}
}

// TestSumOfPayments checks P7.7 by the calls of both packages.
func TestSumOfPayments(t *testing.T) {
	for _, c := range cases(7, 100) {
		for l := range truths(c) {
			r := playOf(t, c, l)
			sum := 0
			for i, f := range c.Fields {
				sum += payOf(c, f, r.Counts[i])
			}
			if r.Award != sum {
				t.Fatalf("Play of %v, %v: %v, and %d is paid", c, l, r, sum)
			}
		}
	}
}

// TestNear checks P7.8: what a greater Near changes, in each truth and in all.
func TestNear(t *testing.T) {
	calledBefore := 0
	for _, c := range cases(8, 200) {
		for i, f := range c.Fields {
			called := ask(t, c).called[i]
			for _, near := range ints(f.Near+1, f.Near+4, 100) {
				more := clone(c)
				more.Fields[i].Near = min(100, near)
				now := ask(t, more).called[i]
				if called == umpire.Never && now != umpire.Never || now == umpire.Always && called != umpire.Always || near == 100 && now != umpire.Never {
					t.Fatalf("Called of %v, %d: %d, and %d with the Near %d", c, i, called, now, near)
				}
				if called != now {
					calledBefore++
				}
			}
		}
	}
	if calledBefore < 100 {
		t.Errorf("%d fields with other calls", calledBefore)
	}
	for near := range 101 {
		for apart := range 101 {
			want := umpire.Never
			if apart > near {
				want = umpire.Always
			}
			if v, e := umpire.Called(of(0, field(0, near, at(100), at(100-apart), at(0))), 0); v != want || e != api.OK {
				t.Fatalf("Called with the Near %d, %d apart: %d, %v", near, apart, v, e)
			}
		}
	}
}

// turned lets both adjusters of all fields change their parts.
func turned(c umpire.Case) umpire.Case {
	c = clone(c)
	for i, f := range c.Fields {
		c.Fields[i].First, c.Fields[i].Second = f.Second, f.First
	}
	return c
}

// alike reports whether the ends differ by at most a penny.
func alike(a, b umpire.Range) bool { return has(to(-1, 1), a.Lo-b.Lo) && has(to(-1, 1), a.Hi-b.Hi) }

// TestOtherWayRound checks P7.9.
func TestOtherWayRound(t *testing.T) {
	pennies := 0
	for _, c := range cases(9, 200) {
		other := turned(c)
		a, b := ask(t, c), ask(t, other)
		if a.award != b.award || fmt.Sprint(a.counts, a.called, a.matters) != fmt.Sprint(b.counts, b.called, b.matters) {
			t.Fatalf("the calls return %v of %v, and %v the other way round", a, c, b)
		}
		if !alike(a.fees.farmer, b.fees.society) || !alike(a.fees.society, b.fees.farmer) {
			t.Fatalf("Fees of %v: %v, and %v the other way round", c, a.fees, b.fees)
		}
		for l := range truths(c) {
			var back []umpire.Three
			for _, x := range l {
				back = append(back, three(x.Second, x.First, x.Umpire))
			}
			r, s := playOf(t, c, l), playOf(t, other, back)
			penny := r.Farmer - s.Society
			if !slices.Equal(r.Counts, s.Counts) || r.Award != s.Award || penny < 0 || penny > 1 || r.Society-s.Farmer != -penny || penny > 0 && (c.Fee%2 == 0 || r.Farmer != r.Society+1) {
				t.Fatalf("Play of %v, %v: %v, and %v the other way round", c, l, r, s)
			}
			pennies += penny
		}
	}
	if pennies < 100 {
		t.Errorf("%d pennies", pennies)
	}
}

// TestFee checks P7.10: the fee is paid if, and only if, the umpire is called for some field.
func TestFee(t *testing.T) {
	paid, not := 0, 0
	for _, c := range cases(10, 200) {
		a := ask(t, c)
		if !slices.ContainsFunc(a.called, func(n int) bool { return n != umpire.Never }) && a.fees != (fees{}) {
			t.Fatalf("Fees of %v: %v", c, a.fees)
		}
		for l := range truths(c) {
			want := 0
			for i, f := range c.Fields {
				if calledFor(f, l[i]) {
					want = c.Fee
				}
			}
			if r := playOf(t, c, l); r.Farmer+r.Society != want || r.Farmer < 0 || r.Society < 0 {
				t.Fatalf("Play of %v, %v: %v, not %d", c, l, r, want)
			}
			if want > 0 {
				paid++
			} else {
				not++
			}
		}
	}
	if paid < 1000 || not < 1000 {
		t.Errorf("paid in %d truths, not in %d", paid, not)
	}
}

// alone is the case with one of its fields.
func alone(c umpire.Case, i int) umpire.Case {
	c.Fields = c.Fields[i : i+1]
	return c
}

// TestFieldByField checks P7.11.
func TestFieldByField(t *testing.T) {
	left := 0
	for _, c := range cases(11, 300) {
		a := ask(t, c)
		var sum umpire.Range
		for i := range c.Fields {
			b := ask(t, alone(c, i))
			sum = to(sum.Lo+b.award.Lo, sum.Hi+b.award.Hi)
			if !slices.Equal(b.counts[0], a.counts[i]) || b.called[0] != a.called[i] || (len(b.matters) > 0) != slices.Contains(a.matters, i) {
				t.Fatalf("the calls return %v of %v, and %v of the field %d alone", a, c, b, i)
			}
			if a.called[i] == umpire.Never {
				left++
				rest := clone(c)
				rest.Fields = slices.Delete(rest.Fields, i, i+1)
				if d := ask(t, rest); d.fees != a.fees {
					t.Fatalf("Fees of %v: %v, and %v without the field %d", c, a.fees, d.fees, i)
				}
			}
		}
		if a.award != sum {
			t.Fatalf("Award of %v: %v, not %v", c, a.award, sum)
		}
	}
	if left < 100 {
		t.Errorf("%d fields left out", left)
	}
}

// TestUmpire checks P7.12, and that the umpire matters where two truths show it.
func TestUmpire(t *testing.T) {
	for _, c := range cases(12, 300) {
		a := ask(t, c)
		for i, f := range c.Fields {
			if slices.Contains(a.matters, i) && (a.called[i] == umpire.Never || f.Umpire.Lo == f.Umpire.Hi || f.Value == 0) {
				t.Fatalf("Matters of %v: %v", c, a.matters)
			}
			for _, change := range []func(f *umpire.Field){
				func(f *umpire.Field) { f.Umpire = at(f.Umpire.Hi) },
				func(f *umpire.Field) { f.Value = 0 },
				func(f *umpire.Field) { f.Near = 100 },
			} {
				other := clone(c)
				change(&other.Fields[i])
				want := slices.DeleteFunc(slices.Clone(a.matters), func(n int) bool { return n == i })
				if b := ask(t, other); !slices.Equal(b.matters, want) {
					t.Fatalf("Matters of %v: %v, of %v: %v", c, a.matters, other, b.matters)
				}
			}
			if is := differs(t, c, i); is != slices.Contains(a.matters, i) {
				t.Fatalf("Matters of %v: %v, and for %d: %v", c, a.matters, i, is)
			}
		}
	}
}

// differs reports whether Play awards something else if the umpire says something else of the field.
func differs(t *testing.T, c umpire.Case, i int) bool {
	t.Helper()
	l := lowest(c)
	for _, x := range told(c.Fields[i]) {
		l[i] = x
		award := playOf(t, c, l).Award
		l[i].Umpire = c.Fields[i].Umpire.Lo
		if playOf(t, c, l).Award != award {
			return true
		}
	}
	return false
}

// wider widens some ranges, as far as they may be wide.
func wider(r *rand.Rand, c umpire.Case) umpire.Case {
	c = clone(c)
	for i := range c.Fields {
		f := &c.Fields[i]
		for _, x := range []*umpire.Range{&f.First, &f.Second, &f.Umpire} {
			if more := to(max(0, x.Lo-r.IntN(3)), min(100, x.Hi+r.IntN(3))); more.Hi-more.Lo <= 4 {
				*x = more
			}
		}
	}
	return c
}

// TestWider checks P7.13.
func TestWider(t *testing.T) {
	r := rand.New(rand.NewPCG(13, 13))
	changed := 0
	for _, c := range cases(13, 300) {
		more := wider(r, c)
		a, b := ask(t, c), ask(t, more)
		if !inside(a.award, b.award) || !inside(a.offers, b.offers) || !inside(a.fees.farmer, b.fees.farmer) || !inside(a.fees.society, b.fees.society) {
			t.Fatalf("the calls return %v of %v, and %v of %v", a, c, b, more)
		}
		for i := range c.Fields {
			for _, n := range a.counts[i] {
				if !slices.Contains(b.counts[i], n) {
					t.Fatalf("Counts of %v, %d: %v, and of %v: %v", c, i, a.counts[i], more, b.counts[i])
				}
			}
			if b.called[i] != umpire.Perhaps && b.called[i] != a.called[i] || slices.Contains(a.matters, i) && !slices.Contains(b.matters, i) {
				t.Fatalf("the calls return %v of %v, and %v of %v", a, c, b, more)
			}
		}
		if fmt.Sprint(a) != fmt.Sprint(b) {
			changed++
		}
	}
	if changed < 150 {
		t.Errorf("%d cases changed", changed)
	}
}

// TestOffers checks P7.14.
func TestOffers(t *testing.T) {
	more := 0
	for _, c := range cases(14, 300) {
		free := c
		free.Fee = 0
		before := ask(t, free)
		if before.offers != before.award {
			t.Fatalf("Offers of %v: %v, with the award %v", free, before.offers, before.award)
		}
		for _, fee := range ints(1, 2, 3, 30, 31, 400, 9999, 10000) {
			other := c
			other.Fee = fee
			a := ask(t, other)
			if a.award != before.award || !inside(a.award, a.offers) || !inside(before.offers, a.offers) {
				t.Fatalf("the calls return %v of %v, and %v before", a, other, before)
			}
			if before.offers != a.offers {
				more++
			}
			before = a
		}
	}
	if more < 500 {
		t.Errorf("%d cases with more offers", more)
	}
}

// TestAnyOrder checks P7: fields in another order have the same ranges.
func TestAnyOrder(t *testing.T) {
	r := rand.New(rand.NewPCG(15, 15))
	for _, c := range cases(15, 300) {
		order := r.Perm(len(c.Fields))
		other := c
		other.Fields = nil
		for _, i := range order {
			other.Fields = append(other.Fields, c.Fields[i])
		}
		a, b := ask(t, c), ask(t, other)
		if a.award != b.award || a.fees != b.fees || a.offers != b.offers || len(a.matters) != len(b.matters) {
			t.Fatalf("the calls return %v of %v, and %v of %v", a, c, b, other)
		}
		for now, i := range order {
			if !slices.Equal(a.counts[i], b.counts[now]) || a.called[i] != b.called[now] || slices.Contains(a.matters, i) != slices.Contains(b.matters, now) {
				t.Fatalf("the calls return %v of %v, and %v of %v", a, c, b, other)
			}
		}
	}
}

// TestAgain checks that equal calls return equal results.
func TestAgain(t *testing.T) {
	for _, c := range cases(16, 60) {
		first := everything(c, lowest(c), 1)
		for range 5 {
			if now := everything(c, lowest(c), 1); now != first {
				t.Fatalf("%s, then %s", first, now)
			}
		}
	}
}
