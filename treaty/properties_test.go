package treaty_test

import (
	"fmt"
	"math/rand/v2"
	"slices"
	"testing"

	"hailstone/api"
	"hailstone/treaty"
)

// TestProgrammes checks that there are enough programmes of each sort for the other tests.
func TestProgrammes(t *testing.T) {
	sorts := map[string]int{}
	for _, p := range programmes(2, 1000) {
		if e := treaty.CheckProgramme(p); e != api.OK {
			t.Fatalf("CheckProgramme of %v: %v", p, e)
		}
		m, all := modelOf(p), outcomes(p)
		some := func(is func(x treaty.Treaty) bool) bool { return slices.ContainsFunc(p.Treaties, is) }
		usedUp, usedUpLater := false, false
		for i, x := range p.Treaties {
			for _, o := range all {
				up := x.Kind == treaty.Excess && o.pays[i] == x.Most*(x.Times+1)
				usedUp, usedUpLater = usedUp || up, usedUpLater || up && x.Times > 0
			}
		}
		for sort, is := range map[string]bool{
			"no truth":                  m.false,
			"truths":                    m.none,
			"reports with truths":       m.none && len(p.Reports) > 1,
			"a later first one":         m.false && m.first > 1,
			"two are left out":          len(m.leave) == 2,
			"three are left out":        len(m.leave) >= 3,
			"another one is left out":   m.false && len(m.leave) == 1 && m.leave[0] != m.first,
			"no losses":                 len(p.Losses) == 0,
			"four losses":               len(p.Losses) == 4,
			"no treaties":               len(p.Treaties) == 0,
			"five treaties":             len(p.Treaties) == 5,
			"Quotas":                    some(func(x treaty.Treaty) bool { return x.Kind == treaty.Quota }),
			"an Excess":                 some(func(x treaty.Treaty) bool { return x.Kind == treaty.Excess }),
			"one protects another one":  some(func(x treaty.Treaty) bool { return x.Of >= 0 }),
			"a chain":                   some(func(x treaty.Treaty) bool { return x.Of >= 0 && p.Treaties[x.Of].Of >= 0 }),
			"all that it pays is paid":  m.none && slices.ContainsFunc(m.bounds, func(b treaty.Bound) bool { return b.Pays.Lo > 0 && b.Keeps == at(0) }),
			"an Excess is used up":      usedUp,
			"reinstated, and used up":   usedUpLater,
			"bounds are wide":           m.none && m.net.Hi > m.net.Lo+5,
			"reports narrow the bounds": m.none && m.net != modelOf(unreported(p)).net,
			"no set suffices":           m.short,
			"no treaty suffices":        !m.short && len(m.set) == 0 && len(p.Treaties) > 0,
			"one treaty":                len(m.set) == 1,
			"two treaties":              len(m.set) == 2,
			"three treaties":            len(m.set) >= 3,
			"the Reserve is just met":   len(m.set) > 0 && keptWith(p, m.set).Hi == p.Reserve,
		} {
			if is {
				sorts[sort]++
			}
		}
	}
	for sort, least := range map[string]int{"no truth": 150, "truths": 300, "reports with truths": 150, "a later first one": 50, "two are left out": 25, "three are left out": 4, "another one is left out": 10, "no losses": 50, "four losses": 40, "no treaties": 50, "five treaties": 100, "Quotas": 300, "an Excess": 300, "one protects another one": 200, "a chain": 30, "all that it pays is paid": 25, "an Excess is used up": 150, "reinstated, and used up": 30, "bounds are wide": 90, "reports narrow the bounds": 30, "no set suffices": 25, "no treaty suffices": 150, "one treaty": 150, "two treaties": 45, "three treaties": 12, "the Reserve is just met": 130} {
		if sorts[sort] < least {
			t.Errorf("%s: %d", sort, sorts[sort])
		}
	}
}

// TestModel checks P10.2, P10.4 and P10.5.
func TestModel(t *testing.T) {
	for _, p := range programmes(3, 1000) {
		if m, a := modelOf(p), ask(t, p); fmt.Sprint(a) != fmt.Sprint(m) {
			t.Fatalf("the calls return %v of %v, not %v", a, p, m)
		}
	}
}

// TestPlayOfModel checks P10.1 and P10.6 in each truth of Losses, whether the reports are right in it or not.
func TestPlayOfModel(t *testing.T) {
	for _, p := range programmes(4, 500) {
		for _, o := range outcomes(p) {
			pays, net := play(t, p, o.losses)
			if !slices.Equal(pays, o.pays) || net != o.net {
				t.Fatalf("Play of %v, %v: %v, %d, not %v", p, o.losses, pays, net, o)
			}
			taken, protection := net, make([]int, len(pays))
			for i, x := range p.Treaties {
				if x.Of == -1 {
					taken += pays[i]
				} else {
					protection[x.Of] += pays[i]
				}
			}
			if taken != sumOf(o.losses) || net < 0 {
				t.Fatalf("Play of %v, %v: %v, %d", p, o.losses, pays, net)
			}
			for i, n := range pays {
				if n < 0 || protection[i] > n || protection[i] != n-o.keeps[i] {
					t.Fatalf("Play of %v, %v: %v, %d, and %v is protected", p, o.losses, pays, net, protection)
				}
			}
		}
	}
}

// TestKeptOfModel checks P10.3, and Prove, for each set.
func TestKeptOfModel(t *testing.T) {
	r := rand.New(rand.NewPCG(5, 5))
	for _, p := range programmes(5, 300) {
		for _, set := range sets(p) {
			got, want, price := kept(t, p, set), keptWith(p, set), priceOf(p, set)
			if got != want {
				t.Fatalf("Kept of %v, %v: %v, not %v", p, set, got, want)
			}
			for _, most := range ints(price-1, price, price+1, r.IntN(200)) {
				if is := treaty.Prove(p, set, most); is != (price <= most && want.Hi <= p.Reserve) {
					t.Fatalf("Prove of %v, %v for %d: %v, and %v is kept", p, set, most, is, want)
				}
			}
		}
	}
}

// TestInEachTruth checks P10.7 by the calls alone.
func TestInEachTruth(t *testing.T) {
	for _, p := range programmes(6, 400) {
		a := ask(t, p)
		seen := answers{bounds: make([]treaty.Bound, len(p.Treaties)), set: a.set, price: a.price, short: a.short, leave: a.leave, first: a.first}
		for _, l := range truths(p) {
			pays, net := play(t, p, l)
			o := outcome{pays: pays}
			if !o.isRight(p) {
				continue
			}
			for i, n := range pays {
				b := &seen.bounds[i]
				b.Pays = widen(b.Pays, n, !seen.none)
				for k, x := range p.Treaties {
					if x.Of == i {
						n -= pays[k]
					}
				}
				b.Keeps = widen(b.Keeps, n, !seen.none)
			}
			seen.net = widen(seen.net, net, !seen.none)
			seen.none = true
		}
		if !seen.none {
			seen.bounds, seen.false = nil, true
		}
		if fmt.Sprint(a) != fmt.Sprint(seen) {
			t.Fatalf("the calls return %v of %v, not %v", a, p, seen)
		}
	}
}

// TestReportsThatAreRight checks P10.7: reports that are right in some truth need not be left out.
func TestReportsThatAreRight(t *testing.T) {
	r := rand.New(rand.NewPCG(7, 7))
	for _, p := range programmes(7, 300) {
		if len(p.Treaties) == 0 {
			continue
		}
		all := truths(p)
		losses := all[r.IntN(len(all))]
		pays, net := play(t, p, losses)
		p.Reports = nil
		for range 5 {
			n := r.IntN(len(pays))
			p.Reports = append(p.Reports, treaty.Report{Treaty: n, Paid: someRange(r, pays[n], r.IntN(4), 10000)})
		}
		a := ask(t, p)
		if !a.none || len(a.leave) > 0 || !has(a.net, net) {
			t.Fatalf("the calls return %v of %v, with %v", a, p, losses)
		}
		for i, b := range a.bounds {
			if !has(b.Pays, pays[i]) {
				t.Fatalf("the calls return %v of %v, with %v", a, p, losses)
			}
		}
	}
}

// TestLimits checks P10.8.
func TestLimits(t *testing.T) {
	for _, p := range programmes(8, 400) {
		for _, l := range truths(p) {
			pays, _ := play(t, p, l)
			for i, x := range p.Treaties {
				if pays[i] > sumOf(l) || x.Kind == treaty.Excess && pays[i] > x.Most*(x.Times+1) {
					t.Fatalf("Play of %v, %v: %v", p, l, pays)
				}
			}
		}
		for i, x := range p.Treaties {
			if x.Kind == treaty.Excess {
				continue
			}
			alone := unreported(p)
			alone.Treaties = []treaty.Treaty{quota(x.Part, x.Price, -1)}
			for _, l := range truths(p) {
				keeps := 0
				for _, n := range l {
					keeps += n - n*x.Part/100
				}
				if _, net := play(t, alone, l); net != keeps {
					t.Fatalf("Play of the treaty %d of %v alone, %v: %d is kept, not %d", i, p, l, net, keeps)
				}
			}
		}
	}
}

// TestOneMoreReport checks P10.9.
func TestOneMoreReport(t *testing.T) {
	r := rand.New(rand.NewPCG(9, 9))
	left, narrowed := 0, 0
	for _, p := range programmes(9, 600) {
		if len(p.Reports) == api.MaxTreatyReports {
			p.Reports = p.Reports[1:]
		}
		others := withReports(r, unreported(p)).Reports
		if len(others) == 0 {
			continue
		}
		more := clone(p)
		more.Reports = slices.Insert(more.Reports, r.IntN(len(p.Reports)+1), others[0])
		a, b := ask(t, p), ask(t, more)
		if n := len(b.leave) - len(a.leave); n < 0 || n > 1 || a.false && !b.false {
			t.Fatalf("Leave of %v: %v, and of %v: %v", p, a, more, b)
		}
		if !b.none {
			left += len(b.leave) - len(a.leave)
			continue
		}
		if !narrower(b, a) {
			t.Fatalf("the calls return %v of %v, and %v of %v", a, p, b, more)
		}
		if fmt.Sprint(a.bounds) != fmt.Sprint(b.bounds) {
			narrowed++
		}
	}
	if left < 30 || narrowed < 20 {
		t.Errorf("%d more left out, %d narrowed", left, narrowed)
	}
}

// wider widens some ranges.
func wider(r *rand.Rand, p treaty.Programme) treaty.Programme {
	p = clone(p)
	more := func(x *treaty.Range, last int) {
		if r.IntN(2) == 0 {
			*x = to(max(0, x.Lo-r.IntN(4)), min(last, x.Hi+r.IntN(4)))
		}
	}
	for i := range p.Losses {
		more(&p.Losses[i], 1000)
	}
	for i := range p.Reports {
		more(&p.Reports[i].Paid, 10000)
	}
	return p
}

// TestWider checks P10.10.
func TestWider(t *testing.T) {
	r := rand.New(rand.NewPCG(10, 10))
	changed, fewer, noLonger := 0, 0, 0
	for _, p := range programmes(10, 900) {
		more := wider(r, p)
		if numberOf(more) > api.MaxTreatyTruths {
			continue
		}
		a, b := ask(t, p), ask(t, more)
		if len(b.leave) > len(a.leave) || a.none && (!b.none || !narrower(a, b)) {
			t.Fatalf("the calls return %v of %v, and %v of %v", a, p, b, more)
		}
		if a.none && fmt.Sprint(a.bounds, a.net) != fmt.Sprint(b.bounds, b.net) {
			changed++
		}
		if len(b.leave) < len(a.leave) {
			fewer++
		}
		for _, set := range sets(p) {
			narrow, wide := kept(t, p, set), kept(t, more, set)
			if !inside(narrow, wide) || treaty.Prove(more, set, 9999) && !treaty.Prove(p, set, 9999) {
				t.Fatalf("Kept of %v of %v: %v, and of %v: %v", set, p, narrow, more, wide)
			}
			if narrow.Hi <= p.Reserve && wide.Hi > p.Reserve {
				noLonger++
			}
		}
	}
	if changed < 80 || fewer < 20 || noLonger < 50 {
		t.Errorf("%d programmes changed, %d with fewer reports left out, %d sets that do not suffice any longer", changed, fewer, noLonger)
	}
}

// TestFirst checks P10.11 by the calls alone.
func TestFirst(t *testing.T) {
	for _, p := range programmes(11, 600) {
		n, e := treaty.First(p)
		if e != api.OK {
			continue
		}
		before, with := p, p
		before.Reports, with.Reports = p.Reports[:n], p.Reports[:n+1]
		if a, b := ask(t, before), ask(t, with); !a.none || !b.false {
			t.Fatalf("First of %v: %d, but %v before it, %v with it", p, n, a, b)
		}
	}
}

// TestLeftOut checks P10.12 by the calls alone: any list that is shorter is tried, and any that is as long, up to the one that is returned.
func TestLeftOut(t *testing.T) {
	for _, p := range programmes(12, 400) {
		l, e := treaty.Leave(p)
		if e != api.OK {
			t.Fatalf("Leave of %v: %v, %v", p, l, e)
		}
		for _, list := range subsets(len(p.Reports)) {
			_, e := treaty.Net(without(p, list...))
			if slices.Equal(list, l) {
				if e != api.OK {
					t.Fatalf("Leave of %v: %v, but Net without it: %v", p, l, e)
				}
				break
			}
			if e != api.ErrFalse {
				t.Fatalf("Leave of %v: %v, but Net without %v: %v", p, l, list, e)
			}
		}
	}
}

// TestCheapestOfAll checks P10.13 by the calls alone: any set is tried.
func TestCheapestOfAll(t *testing.T) {
	r := rand.New(rand.NewPCG(13, 13))
	cheaper := 0
	for _, p := range programmes(13, 500) {
		a := ask(t, p)
		if !a.short && (kept(t, p, a.set).Hi > p.Reserve || !treaty.Prove(p, a.set, a.price) || treaty.Prove(p, a.set, a.price-1)) {
			t.Fatalf("Cheapest of %v: %v", p, a)
		}
		for _, set := range sets(p) {
			if treaty.Prove(p, set, a.price-1) || a.short && kept(t, p, set).Hi <= p.Reserve {
				t.Fatalf("Cheapest of %v: %v, but %v suffices", p, a, set)
			}
			before := len(set) < len(a.set) || len(set) == len(a.set) && slices.Compare(set, a.set) < 0
			if before && treaty.Prove(p, set, a.price) {
				t.Fatalf("Cheapest of %v: %v, but %v suffices, too", p, a, set)
			}
		}
		b := ask(t, reserved(p, min(10000, p.Reserve+r.IntN(60))))
		if !a.short && (b.short || b.price > a.price) {
			t.Fatalf("Cheapest of %v: %v, and with a greater Reserve: %v", p, a, b)
		}
		if b.price < a.price || a.short && !b.short {
			cheaper++
		}
	}
	if cheaper < 50 {
		t.Errorf("%d programmes are cheaper with a greater Reserve", cheaper)
	}
}

// TestOthers checks P10.14: treaties that protect other treaties are changed, and left out.
func TestOthers(t *testing.T) {
	r := rand.New(rand.NewPCG(14, 14))
	others := 0
	for _, p := range programmes(14, 500) {
		p.Reports = nil
		changed, fewer := clone(p), p
		fewer.Treaties = nil
		now := map[int]int{}
		for i, x := range p.Treaties {
			if x.Of != -1 {
				changed.Treaties[i] = someTreaty(r, i, 100)
				changed.Treaties[i].Of = r.IntN(i)
				others++
				continue
			}
			now[i] = len(fewer.Treaties)
			fewer.Treaties = append(fewer.Treaties, x)
		}
		a, b, c := ask(t, p), ask(t, changed), ask(t, fewer)
		if a.net != b.net || a.net != c.net || !slices.Equal(a.set, b.set) || a.price != b.price || a.price != c.price || a.short != b.short || a.short != c.short {
			t.Fatalf("the calls return %v of %v, %v of %v, and %v of %v", a, p, b, changed, c, fewer)
		}
		for _, set := range sets(p) {
			var renumbered []int
			for _, i := range set {
				renumbered = append(renumbered, now[i])
			}
			if x := kept(t, p, set); x != kept(t, changed, set) || x != kept(t, fewer, renumbered) {
				t.Fatalf("Kept of %v, %v: %v", p, set, x)
			}
		}
		for _, l := range truths(p) {
			_, x := play(t, p, l)
			_, y := play(t, changed, l)
			_, z := play(t, fewer, l)
			if x != y || x != z {
				t.Fatalf("Play of %v, %v: %d, %d, %d", p, l, x, y, z)
			}
		}
	}
	if others < 200 {
		t.Errorf("%d treaties protect other ones", others)
	}
}

// TestProtectionChangesNothing checks that what a treaty pays does not depend on those that protect it.
func TestProtectionChangesNothing(t *testing.T) {
	for _, p := range programmes(15, 300) {
		p.Reports = nil
		for n := range p.Treaties {
			before := p
			before.Treaties = p.Treaties[:n]
			for _, l := range truths(p) {
				all, _ := play(t, p, l)
				if first, _ := play(t, before, l); !slices.Equal(first, all[:n]) {
					t.Fatalf("Play of %v, %v: %v, and of %v: %v", p, l, all, before, first)
				}
			}
		}
	}
}

// TestAnyOrder checks P7: reports in another order have the same ranges, and as many are left out.
func TestAnyOrder(t *testing.T) {
	r := rand.New(rand.NewPCG(16, 16))
	for _, p := range programmes(16, 500) {
		order := r.Perm(len(p.Reports))
		other := unreported(p)
		for _, i := range order {
			other.Reports = append(other.Reports, p.Reports[i])
		}
		a, b := ask(t, p), ask(t, other)
		if !slices.Equal(a.bounds, b.bounds) || a.net != b.net || len(a.leave) != len(b.leave) || a.none != b.none || !slices.Equal(a.set, b.set) {
			t.Fatalf("the calls return %v of %v, and %v of %v", a, p, b, other)
		}
		var left []int
		for _, i := range b.leave {
			left = append(left, order[i])
		}
		if _, e := treaty.Net(without(p, left...)); e != api.OK {
			t.Fatalf("Net of %v without %v: %v", p, left, e)
		}
	}
}

// TestAgain checks that equal calls return equal results.
func TestAgain(t *testing.T) {
	for _, p := range programmes(17, 80) {
		l, set := truths(p)[0], sets(p)[0]
		first := everything(p, l, set, 50)
		for range 5 {
			if now := everything(p, l, set, 50); now != first {
				t.Fatalf("%s, then %s", first, now)
			}
		}
	}
}
