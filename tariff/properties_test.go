package tariff_test

import (
	"math/rand/v2"
	"slices"
	"testing"

	"hailstone/api"
	"hailstone/tariff"
)

// payOf asks the package for a payment, which there must be.
func payOf(t *testing.T, l []tariff.Tariff, c tariff.Claim, u tariff.Truth) int {
	t.Helper()
	n, e := tariff.Pay(l, c, u)
	if e != api.OK {
		t.Fatalf("Pay of %v, %v, %v: %v", l, c, u, e)
	}
	return n
}

// partsOf asks the package for the parts of all counts.
func partsOf(t *testing.T, l []tariff.Tariff, crop, day int) []int {
	t.Helper()
	var all []int
	for count := range 101 {
		n, e := tariff.Part(l, crop, day, count)
		if e != api.OK {
			t.Fatalf("Part of %v, %d, %d, %d: %v", l, crop, day, count, e)
		}
		all = append(all, n)
	}
	return all
}

func boundsFrom(t *testing.T, l []tariff.Tariff, c tariff.Claim) tariff.Range {
	t.Helper()
	r, e := tariff.Bounds(l, c)
	if e != api.OK {
		t.Fatalf("Bounds of %v, %v: %v", l, c, e)
	}
	return r
}

func totalOf(t *testing.T, l []tariff.Tariff, claims []tariff.Claim) tariff.Range {
	t.Helper()
	r, e := tariff.Total(l, claims)
	if e != api.OK {
		t.Fatalf("Total of %v, %v: %v", l, claims, e)
	}
	return r
}

// lessEqual reports whether no number of the first list is greater than that of the second one.
func lessEqual(a, b []int) bool {
	for i := range a {
		if a[i] > b[i] {
			return false
		}
	}
	return len(a) == len(b)
}

// someDays are some days on which something changes, and those before them.
func someDays(l []tariff.Tariff) []int {
	days := ints(0, 120)
	for _, x := range l {
		for _, n := range append(ints(x.From), x.Weeks...) {
			days = append(days, n, max(0, n-1))
		}
	}
	slices.Sort(days)
	return slices.Compact(days)
}

// TestLists checks that there are enough tariffs and claims of each sort for the other tests.
func TestLists(t *testing.T) {
	sorts := map[string]int{}
	for i, l := range lists(2, 100) {
		if e := tariff.CheckTariffs(l); e != api.OK {
			t.Fatalf("CheckTariffs of %v: %v", l, e)
		}
		for _, c := range claims(uint64(i), l, 5) {
			bounds, low, high := boundsOf(l, c)
			x, week := tariffOf(l, low.Day)
			y, otherWeek := tariffOf(l, high.Day)
			for sort, is := range map[string]bool{
				"whole":           x.Whole,
				"not whole":       !x.Whole && x.Least > 0,
				"several tariffs": x.From != y.From,
				"several weeks":   x.From == y.From && week != otherWeek,
				"other crops":     c.Crop > 0,
				"perhaps":         bounds.Lo == 0 && bounds.Hi > 0,
				"always":          bounds.Lo > 0,
				"never":           bounds.Hi == 0,
				"inside":          high.Count > c.Count.Lo && high.Count < c.Count.Hi,
				"misprints":       len(misprintsOf(x.Rates[c.Crop][week])) > 0,
				"more misprints":  len(misprintsOf(x.Rates[c.Crop][week])) > 1,
			} {
				if is {
					sorts[sort]++
				}
			}
		}
	}
	for sort, least := range map[string]int{"whole": 100, "not whole": 100, "several tariffs": 10, "several weeks": 20, "other crops": 100, "perhaps": 40, "always": 50, "never": 50, "inside": 50, "misprints": 100, "more misprints": 20} {
		if sorts[sort] < least {
			t.Errorf("%s: %d", sort, sorts[sort])
		}
	}
}

// TestPartOfModel checks P5.1 and P5.4 for all counts.
func TestPartOfModel(t *testing.T) {
	for _, l := range lists(3, 100) {
		for crop := range l[0].Rates {
			for _, day := range someDays(l) {
				first, none := 0, api.ErrNone
				for count, n := range partsOf(t, l, crop, day) {
					want := partOf(l, crop, day, count)
					if n != want {
						t.Fatalf("Part of %v, %d, %d, %d: %d, not %d", l, crop, day, count, n, want)
					}
					if want > 0 && none != api.OK {
						first, none = count, api.OK
					}
				}
				if n, e := tariff.Least(l, crop, day); n != first || e != none {
					t.Fatalf("Least of %v, %d, %d: %d, %v, not %d, %v", l, crop, day, n, e, first, none)
				}
			}
		}
	}
}

// TestClaimsOfModel checks P5.2, P5.3 and P5.4.
func TestClaimsOfModel(t *testing.T) {
	for i, l := range lists(4, 200) {
		all := claims(uint64(i), l, 5)
		total := at(0)
		for _, c := range all {
			bounds, low, high := boundsOf(l, c)
			total = to(total.Lo+bounds.Lo, total.Hi+bounds.Hi)
			if r := boundsFrom(t, l, c); r != bounds {
				t.Fatalf("Bounds of %v, %v: %v, not %v", l, c, r, bounds)
			}
			if u, e := tariff.Show(l, c, false); u != low || e != api.OK {
				t.Fatalf("Show of %v, %v: %v, %v, not %v", l, c, u, e, low)
			}
			if u, e := tariff.Show(l, c, true); u != high || e != api.OK {
				t.Fatalf("Show of %v, %v: %v, %v, not %v", l, c, u, e, high)
			}
			if v, e := tariff.Paid(l, c); v != paidOf(l, c) || e != api.OK {
				t.Fatalf("Paid of %v, %v: %d, %v", l, c, v, e)
			}
			for _, u := range truths(c) {
				want := paymentOf(l, c, u)
				if n := payOf(t, l, c, u); n != want || !tariff.ProvePay(l, c, u, n) || tariff.ProvePay(l, c, u, n+1) || tariff.ProvePay(l, c, u, n-1) {
					t.Fatalf("Pay, ProvePay of %v, %v, %v: %d, not %d", l, c, u, n, want)
				}
			}
		}
		if r := totalOf(t, l, all); r != total {
			t.Fatalf("Total of %v, %v: %v, not %v", l, all, r, total)
		}
	}
}

// TestMisprintsOfModel checks P5.5, and P5.14: no list that is shorter, or before it, leaves rates that rise.
func TestMisprintsOfModel(t *testing.T) {
	for _, l := range lists(5, 300) {
		for which, x := range l {
			for crop, weeks := range x.Rates {
				for week, rates := range weeks {
					m, e := tariff.Misprints(l, which, crop, week)
					if !slices.Equal(m, misprintsOf(rates)) || e != api.OK {
						t.Fatalf("Misprints of %v: %v, %v", rates, m, e)
					}
					if !slices.IsSorted(without(rates, m)) || (len(m) == 0) != slices.IsSorted(rates) {
						t.Fatalf("Misprints of %v: %v, and the others do not rise", rates, m)
					}
					for _, other := range subsets(len(rates)) {
						if before(other, m) && slices.IsSorted(without(rates, other)) {
							t.Fatalf("Misprints of %v: %v, not %v", rates, m, other)
						}
					}
				}
			}
		}
	}
}

// TestInEachTruth checks P5.6 by the calls alone.
func TestInEachTruth(t *testing.T) {
	for i, l := range lists(6, 150) {
		for _, c := range claims(uint64(i), l, 4) {
			bounds := boundsFrom(t, l, c)
			paid, _ := tariff.Paid(l, c)
			for _, u := range truths(c) {
				n := payOf(t, l, c, u)
				if !has(bounds, n) || paid == tariff.Always && n == 0 || paid == tariff.Never && n > 0 {
					t.Fatalf("Bounds, Paid of %v, %v: %v, %d, and %v has %d", l, c, bounds, paid, u, n)
				}
			}
			if paid == tariff.Perhaps && (bounds.Lo > 0 || bounds.Hi == 0) {
				t.Fatalf("Paid of %v, %v: %d, with %v", l, c, paid, bounds)
			}
			low, e := tariff.Show(l, c, false)
			high, f := tariff.Show(l, c, true)
			if e != api.OK || f != api.OK || !tariff.ProvePay(l, c, low, bounds.Lo) || !tariff.ProvePay(l, c, high, bounds.Hi) {
				t.Fatalf("Show of %v, %v: %v, %v, %v, %v, with %v", l, c, low, e, high, f, bounds)
			}
		}
	}
}

// TestLaterTariff checks P5.7: a tariff that is added, or changed, changes no part of a day before its From.
func TestLaterTariff(t *testing.T) {
	r := rand.New(rand.NewPCG(7, 7))
	changed := 0
	for _, l := range lists(7, 100) {
		last := len(l) - 1
		other := append(clone(l)[:last], someTariff(r, l[last].From, len(l[0].Rates)))
		more := l
		if len(l) < api.MaxTariffTariffs {
			more = append(clone(l), someTariff(r, l[last].From+1+r.IntN(60), len(l[0].Rates)))
		}
		for crop := range l[0].Rates {
			for _, day := range append(someDays(l), someDays(more)...) {
				parts := partsOf(t, l, crop, day)
				if now := partsOf(t, other, crop, day); !slices.Equal(now, parts) {
					changed++
					if day < l[last].From {
						t.Fatalf("parts of %v, %v on the day %d", l, other, day)
					}
				}
				if now := partsOf(t, more, crop, day); day < more[len(more)-1].From && !slices.Equal(now, parts) {
					t.Fatalf("parts of %v, %v on the day %d", l, more, day)
				}
			}
		}
	}
	if changed < 100 {
		t.Errorf("%d days with other parts", changed)
	}
}

// TestMoreEars checks P5.8.
func TestMoreEars(t *testing.T) {
	risen, bounded := 0, 0
	for _, l := range lists(8, 150) {
		for crop := range l[0].Rates {
			for _, day := range someDays(l) {
				x, week := tariffOf(l, day)
				if !slices.IsSorted(x.Rates[crop][week]) {
					continue
				}
				risen++
				parts := partsOf(t, l, crop, day)
				if !slices.IsSorted(parts) {
					t.Fatalf("parts of %v, %d, %d: %v", l, crop, day, parts)
				}
				least, e := tariff.Least(l, crop, day)
				if e == api.ErrNone {
					least = 101
				} else {
					bounded++
				}
				for count, n := range parts {
					if (n > 0) != (count >= least) {
						t.Fatalf("Least of %v, %d, %d: %d, and the part of %d is %d", l, crop, day, least, count, n)
					}
				}
			}
		}
	}
	if risen < 200 || bounded < 100 {
		t.Errorf("%d weeks with rates that rise, %d with a least count", risen, bounded)
	}
}

// TestTwoHalves checks P5.9, and P5.15.
func TestTwoHalves(t *testing.T) {
	r := rand.New(rand.NewPCG(9, 9))
	sorts := map[int]int{}
	for i, l := range lists(9, 200) {
		for _, c := range claims(uint64(i), l, 3) {
			u := truth(c.Day.Lo, c.Count.Lo)
			a, b := c, c
			a.Value = r.IntN(c.Value + 1)
			b.Value -= a.Value
			lost := payOf(t, l, c, u) - payOf(t, l, a, u) - payOf(t, l, b, u)
			if lost < 0 || lost > 1 {
				t.Fatalf("Pay of %v, %v, divided in %d and %d: %d less", l, c, a.Value, b.Value, lost)
			}
			sorts[lost]++
			c.Value = c.Value / 100 * 100
			part, e := tariff.Part(l, c.Crop, u.Day, u.Count)
			if n := payOf(t, l, c, u); n != c.Value/100*part || e != api.OK {
				t.Fatalf("Pay of %v, %v, %v: %d, with the part %d", l, c, u, n, part)
			}
		}
	}
	if sorts[0] < 100 || sorts[1] < 50 {
		t.Errorf("pence that are lost: %v", sorts)
	}
}

// TestLeastPart checks P5.10.
func TestLeastPart(t *testing.T) {
	for _, l := range lists(10, 60) {
		for crop := range l[0].Rates {
			for _, day := range someDays(l) {
				var losses []int
				for count := range 101 {
					losses = append(losses, lossOf(l, crop, day, count))
				}
				var whole, rest []int
				for n, limit := range ints(0, 1, 7, 8, 30, 99, 100) {
					nowWhole := partsOf(t, least(clone(l), limit, true), crop, day)
					nowRest := partsOf(t, least(clone(l), limit, false), crop, day)
					switch {
					case n == 0 && (!slices.Equal(nowWhole, losses) || !slices.Equal(nowRest, losses)):
						t.Fatalf("parts of %v, %d, %d without a Least: %v, %v", l, crop, day, nowWhole, nowRest)
					case n > 0 && (!lessEqual(nowWhole, whole) || !lessEqual(nowRest, rest)):
						t.Fatalf("parts of %v, %d, %d with the Least %d: %v, %v", l, crop, day, limit, nowWhole, nowRest)
					case !lessEqual(nowRest, nowWhole):
						t.Fatalf("parts of %v, %d, %d with the Least %d: %v, and whole %v", l, crop, day, limit, nowRest, nowWhole)
					}
					whole, rest = nowWhole, nowRest
				}
			}
		}
	}
}

// TestBetween checks P5.11.
func TestBetween(t *testing.T) {
	for _, l := range lists(11, 100) {
		least(l, 0, true)
		for crop := range l[0].Rates {
			for _, day := range someDays(l) {
				x, _ := tariffOf(l, day)
				parts := partsOf(t, l, crop, day)
				for i := range len(x.Counts) - 1 {
					a, b := x.Counts[i], x.Counts[i+1]
					ends := to(min(parts[a], parts[b]), max(parts[a], parts[b]))
					for count := a; count <= b; count++ {
						if !has(ends, parts[count]) {
							t.Fatalf("Part of %v, %d, %d, %d: %d, not in %v", l, crop, day, count, parts[count], ends)
						}
					}
				}
			}
		}
	}
}

// TestWider checks P5.12.
func TestWider(t *testing.T) {
	r := rand.New(rand.NewPCG(12, 12))
	wider := 0
	for i, l := range lists(12, 200) {
		for _, c := range claims(uint64(i), l, 5) {
			more := c
			more.Day = to(max(0, c.Day.Lo-r.IntN(3)), min(120, c.Day.Hi+r.IntN(3)))
			if more.Day.Hi-more.Day.Lo > api.MaxTariffWide {
				more.Day = c.Day
			}
			more.Count = to(max(0, c.Count.Lo-r.IntN(9)), min(100, c.Count.Hi+r.IntN(9)))
			before, after := boundsFrom(t, l, c), boundsFrom(t, l, more)
			if !inside(before, after) {
				t.Fatalf("Bounds of %v: %v of %v, %v of %v", l, before, c, after, more)
			}
			if before != after {
				wider++
			}
			c.Day, c.Count = at(c.Day.Hi), at(c.Count.Hi)
			if known := boundsFrom(t, l, c); known != at(payOf(t, l, c, truth(c.Day.Hi, c.Count.Hi))) {
				t.Fatalf("Bounds of %v, %v: %v", l, c, known)
			}
		}
	}
	if wider < 100 {
		t.Errorf("%d claims with wider bounds", wider)
	}
}

// TestAllClaims checks P5.13, and P7.
func TestAllClaims(t *testing.T) {
	r := rand.New(rand.NewPCG(13, 13))
	for i, l := range lists(13, 200) {
		all := claims(uint64(i), l, 5)
		for n := range all {
			before, after, more := totalOf(t, l, all[:n]), totalOf(t, l, all[:n+1]), boundsFrom(t, l, all[n])
			if after != to(before.Lo+more.Lo, before.Hi+more.Hi) {
				t.Fatalf("Total of %v, %v: %v, and %v with one more, which has %v", l, all[:n], before, after, more)
			}
		}
		other := slices.Clone(all)
		r.Shuffle(len(other), func(i, k int) { other[i], other[k] = other[k], other[i] })
		if totalOf(t, l, other) != totalOf(t, l, all) {
			t.Fatalf("Total of %v: %v, in another order %v", l, all, other)
		}
	}
}
