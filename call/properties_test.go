package call_test

import (
	"fmt"
	"math/rand/v2"
	"slices"
	"testing"

	"hailstone/api"
	"hailstone/call"
)

// TestSocieties checks that there are enough societies of each sort for the other tests.
func TestSocieties(t *testing.T) {
	sorts := map[string]int{}
	for _, s := range societies(2, 400) {
		m := modelOf(s)
		all := 0
		for _, x := range s.Members {
			all += x.Most
		}
		calls, short := callsOf(s.Members, m.needs.Hi)
		capped := 0
		for i, x := range s.Members {
			if calls[i] == x.Most && calls[i] > 0 {
				capped++
			}
		}
		first, second := s.Members[0], s.Members[len(s.Members)-1]
		for sort, is := range map[string]bool{
			"nothing is needed":           m.needs.Hi == 0,
			"something may be needed":     m.needs.Lo == 0 && m.needs.Hi > 0,
			"the need is known":           m.needs.Lo == m.needs.Hi && m.needs.Lo > 0,
			"the need is not known":       m.needs.Hi > m.needs.Lo+5,
			"short":                       m.short.Lo > 0,
			"short in some truths":        m.short.Lo == 0 && m.short.Hi > 0,
			"some pay their Most":         capped > 0 && short == 0,
			"several pay their Most":      capped > 1 && short == 0,
			"all pay their Most":          m.needs.Hi > 0 && all == m.needs.Hi,
			"nobody's Most is less":       !slices.ContainsFunc(s.Members, func(x call.Member) bool { return x.Most < m.needs.Hi }) && m.needs.Hi > 0,
			"no rate suffices":            m.rate < 0,
			"a rate above 0":              m.rate > 0,
			"nobody is missed":            m.nobody,
			"one is missed":               len(m.missed) == 1,
			"one is missed, not the 0":    len(m.missed) == 1 && m.missed[0] > 0,
			"several are missed":          len(m.missed) > 1,
			"none of them need be":        len(m.missed) == 0 && !m.nobody,
			"equal members":               len(s.Members) > 1 && first == second,
			"equal units, and other Most": len(s.Members) > 1 && unitsOf(first) == unitsOf(second) && first.Most != second.Most,
			"one member":                  len(s.Members) == 1,
			"five members":                len(s.Members) == 5,
			"no losses":                   len(s.Losses) == 0,
			"three losses":                len(s.Losses) == 3,
		} {
			if is {
				sorts[sort]++
			}
		}
	}
	for sort, least := range map[string]int{"nothing is needed": 50, "something may be needed": 5, "the need is known": 20, "the need is not known": 50, "short": 50, "short in some truths": 10, "some pay their Most": 50, "several pay their Most": 20, "all pay their Most": 2, "nobody's Most is less": 20, "no rate suffices": 80, "a rate above 0": 80, "nobody is missed": 50, "one is missed": 30, "one is missed, not the 0": 10, "several are missed": 30, "none of them need be": 50, "equal members": 30, "equal units, and other Most": 10, "one member": 50, "five members": 50, "no losses": 50, "three losses": 50} {
		if sorts[sort] < least {
			t.Errorf("%s: %d", sort, sorts[sort])
		}
	}
}

// TestModel checks P9.1, P9.3 and P9.5.
func TestModel(t *testing.T) {
	for _, s := range societies(3, 1000) {
		if m, a := modelOf(s), ask(t, s); fmt.Sprint(a) != fmt.Sprint(m) {
			t.Fatalf("the calls return %v of %v, not %v", a, s, m)
		}
	}
}

// TestNeedOfModel checks P9.1 in each truth.
func TestNeedOfModel(t *testing.T) {
	for _, s := range societies(4, 300) {
		needs := ask(t, s).needs
		low, high := false, false
		for _, u := range truths(s) {
			n, e := call.Need(s, u)
			if n != needOf(s, u) || e != api.OK || !has(needs, n) {
				t.Fatalf("Need of %v, %v: %d, %v, with %v", s, u, n, e, needs)
			}
			low, high = low || n == needs.Lo, high || n == needs.Hi
		}
		if !low || !high {
			t.Fatalf("Needs of %v: %v, but an end is not reached", s, needs)
		}
	}
}

// TestCallsOfModel checks P9.2, and of P9.6 and P9.7 what holds of each need.
func TestCallsOfModel(t *testing.T) {
	r := rand.New(rand.NewPCG(5, 9))
	for _, s := range societies(5, 1500) {
		for _, need := range someNeeds(r, s) {
			calls, short := pay(t, s, need)
			want, rest := callsOf(s.Members, need)
			if !slices.Equal(calls, want) || short != rest {
				t.Fatalf("Calls of %v for %d: %v, %d, not %v, %d", s, need, calls, short, want, rest)
			}
			if sumOf(calls)+short != need {
				t.Fatalf("Calls of %v for %d: %v, %d", s, need, calls, short)
			}
			for i, m := range s.Members {
				if calls[i] < 0 || calls[i] > m.Most || short > 0 && calls[i] < m.Most {
					t.Fatalf("Calls of %v for %d: %v, %d", s, need, calls, short)
				}
			}
			if !call.ProveCalls(s, need, calls) {
				t.Fatalf("ProveCalls of %v for %d: %v", s, need, calls)
			}
			for _, wrong := range wrongLists(calls) {
				if call.ProveCalls(s, need, wrong) {
					t.Fatalf("ProveCalls of %v for %d: %v, not %v", s, need, wrong, calls)
				}
			}
		}
	}
}

// TestSmall checks P9.2 for all small needs, with all small units and Mosts of three members.
func TestSmall(t *testing.T) {
	for code := range 3 * 3 * 3 * 4 * 4 * 4 {
		l := members()
		rest := code
		for range 3 {
			l = append(l, member(1+rest%3, 1, rest/3%4*(1+rest/3%4)))
			rest /= 12
		}
		for need := range 18 {
			calls, short := pay(t, call.Society{Members: l}, need)
			if want, rest := callsOf(l, need); !slices.Equal(calls, want) || short != rest {
				t.Fatalf("Calls of %v for %d: %v, %d, not %v, %d", l, need, calls, short, want, rest)
			}
		}
	}
}

// TestWithoutOfModel checks P9.4.
func TestWithoutOfModel(t *testing.T) {
	for _, s := range societies(6, 300) {
		for _, out := range subsets(len(s.Members)) {
			l := without(t, s, out...)
			if want, _ := boundsWithout(s, out...); !slices.Equal(l, want) {
				t.Fatalf("Without of %v, %v: %v, not %v", s, out, l, want)
			}
			for _, i := range out {
				if l[i] != at(0) {
					t.Fatalf("Without of %v, %v: %v", s, out, l)
				}
			}
		}
		if l, a := without(t, s), ask(t, s); !slices.Equal(l, a.bounds) {
			t.Fatalf("Without of %v: %v, not %v", s, l, a.bounds)
		}
	}
}

// TestInEachTruth checks P9.6 and P9.7 by the calls alone.
func TestInEachTruth(t *testing.T) {
	for _, s := range societies(7, 300) {
		a := ask(t, s)
		seen := map[string]bool{}
		for _, u := range truths(s) {
			need, _ := call.Need(s, u)
			calls, short := pay(t, s, need)
			if sumOf(calls)+short != need || !has(a.short, short) {
				t.Fatalf("Calls of %v for %d: %v, %d, with %v", s, need, calls, short, a)
			}
			seen[fmt.Sprint("short ", short)] = true
			for i, n := range calls {
				if !has(a.bounds[i], n) || n > s.Members[i].Most || short > 0 && n != s.Members[i].Most {
					t.Fatalf("Calls of %v for %d: %v, %d, with %v", s, need, calls, short, a)
				}
				seen[fmt.Sprint(i, " pays ", n)] = true
			}
		}
		for i, b := range a.bounds {
			if !seen[fmt.Sprint(i, " pays ", b.Lo)] || !seen[fmt.Sprint(i, " pays ", b.Hi)] {
				t.Fatalf("Bounds of %v: %v, but an end is not reached", s, a.bounds)
			}
		}
		if !seen[fmt.Sprint("short ", a.short.Lo)] || !seen[fmt.Sprint("short ", a.short.Hi)] {
			t.Fatalf("Short of %v: %v, but an end is not reached", s, a.short)
		}
	}
}

// TestEqualMembers checks P9.8.
func TestEqualMembers(t *testing.T) {
	r := rand.New(rand.NewPCG(8, 9))
	seen := map[int]int{}
	for _, s := range societies(8, 1000) {
		for _, need := range someNeeds(r, s) {
			calls, _ := pay(t, s, need)
			for k, later := range s.Members {
				for i, earlier := range s.Members[:k] {
					if earlier != later {
						continue
					}
					more := calls[i] - calls[k]
					if more < 0 || more > 1 {
						t.Fatalf("Calls of %v for %d: %v", s, need, calls)
					}
					seen[more]++
				}
			}
		}
	}
	if seen[0] < 500 || seen[1] < 200 {
		t.Errorf("pence more: %v", seen)
	}
}

// TestMoreIsNeeded checks P9.9.
func TestMoreIsNeeded(t *testing.T) {
	for _, s := range societies(9, 300) {
		all, before := 0, 0
		for need := range 150 {
			calls, short := pay(t, s, need)
			if sumOf(calls) < all || short < before {
				t.Fatalf("Calls of %v for %d: %v, %d, but %d, %d before", s, need, calls, short, all, before)
			}
			all, before = sumOf(calls), short
		}
	}
}

// shuffled lists the members and the losses in another order; it returns where each member was.
func shuffled(r *rand.Rand, s call.Society) (call.Society, []int) {
	other := s
	other.Members, other.Losses = nil, nil
	order := r.Perm(len(s.Members))
	for _, i := range order {
		other.Members = append(other.Members, s.Members[i])
	}
	for _, i := range r.Perm(len(s.Losses)) {
		other.Losses = append(other.Losses, s.Losses[i])
	}
	return other, order
}

// TestAnyOrder checks P9.10, and P7.
func TestAnyOrder(t *testing.T) {
	r := rand.New(rand.NewPCG(10, 9))
	changed := 0
	for _, s := range societies(10, 1000) {
		other, order := shuffled(r, s)
		a, b := ask(t, s), ask(t, other)
		if a.needs != b.needs || a.short != b.short || a.rate != b.rate || a.nobody != b.nobody || len(a.missed) != len(b.missed) {
			t.Fatalf("the calls return %v of %v, and %v of %v", a, s, b, other)
		}
		s, other = bottomless(s), bottomless(other)
		a, b = ask(t, s), ask(t, other)
		for k, i := range order {
			if !near(a.bounds[i].Lo, b.bounds[k].Lo) || !near(a.bounds[i].Hi, b.bounds[k].Hi) {
				t.Fatalf("Bounds of %v, and of %v: %v, %v", s, other, a.bounds, b.bounds)
			}
		}
		for _, need := range someNeeds(r, s) {
			calls, _ := pay(t, s, need)
			now, _ := pay(t, other, need)
			for k, i := range order {
				if !near(calls[i], now[k]) {
					t.Fatalf("Calls of %v, and of %v for %d: %v, %v", s, other, need, calls, now)
				}
				if calls[i] != now[k] {
					changed++
				}
			}
		}
	}
	if changed < 200 {
		t.Errorf("%d calls changed", changed)
	}
}

// near reports whether the numbers differ by a penny at the most.
func near(a, b int) bool { return max(a, b)-min(a, b) <= 1 }

// TestByUnits checks P9.11.
func TestByUnits(t *testing.T) {
	r := rand.New(rand.NewPCG(11, 9))
	multiplied := 0
	for _, s := range societies(11, 1000) {
		s = bottomless(s)
		all, greatest := 0, 0
		for _, m := range s.Members {
			all += unitsOf(m)
			greatest = max(greatest, m.Sum)
		}
		times := 1 + r.IntN(api.MaxCallSum/greatest)
		other := clone(s)
		for i := range other.Members {
			other.Members[i].Sum *= times
		}
		if times > 1 {
			multiplied++
		}
		for _, need := range append(someNeeds(r, s), r.IntN(100001)) {
			calls, _ := pay(t, s, need)
			for i, m := range s.Members {
				apart := calls[i]*all - need*unitsOf(m)
				if apart <= -all || apart >= all {
					t.Fatalf("Calls of %v for %d: %v", s, need, calls)
				}
			}
			if now, _ := pay(t, other, need); !slices.Equal(now, calls) {
				t.Fatalf("Calls of %v for %d: %v, and of %v: %v", s, need, calls, other, now)
			}
		}
	}
	if multiplied < 200 {
		t.Errorf("%d societies with other Sums", multiplied)
	}
}

// TestSmallestRate checks P9.12.
func TestSmallestRate(t *testing.T) {
	r := rand.New(rand.NewPCG(12, 9))
	fewer := 0
	for _, s := range societies(12, 500) {
		a := ask(t, s)
		switch {
		case a.rate < 0 && broughtBy(s.Members, 10000) >= a.needs.Hi:
			t.Fatalf("Rate of %v: none", s)
		case a.rate >= 0 && broughtBy(s.Members, a.rate) < a.needs.Hi, a.rate > 0 && broughtBy(s.Members, a.rate-1) >= a.needs.Hi:
			t.Fatalf("Rate of %v: %d", s, a.rate)
		}
		more := clone(s)
		more.Reserve += r.IntN(20)
		b := ask(t, more)
		if a.rate >= 0 && (b.rate < 0 || b.rate > a.rate) {
			t.Fatalf("Rate of %v: %d, and of %v: %d", s, a.rate, more, b.rate)
		}
		if a.rate > b.rate {
			fewer++
		}
	}
	if fewer < 50 {
		t.Errorf("%d rates are smaller", fewer)
	}
}

// shortWithout is what is short for the need if some members are not asked, as far as the calls say it.
func shortWithout(t *testing.T, s call.Society, need int, out ...int) int {
	t.Helper()
	s = clone(s)
	s.Losses, s.Treaty, s.Reserve = ranges(at(need)), at(0), 0
	for _, b := range without(t, s, out...) {
		if b.Lo != b.Hi {
			t.Fatalf("Without of %v, %v: %v", s, out, b)
		}
		need -= b.Lo
	}
	return need
}

// TestNotAsked checks P9.13.
func TestNotAsked(t *testing.T) {
	r := rand.New(rand.NewPCG(13, 9))
	shorter, more := 0, 0
	for _, s := range societies(13, 200) {
		for _, out := range subsets(len(s.Members)) {
			for _, need := range someNeeds(r, s) {
				_, before := pay(t, s, need)
				now := shortWithout(t, s, need, out...)
				if now < before {
					t.Fatalf("%d is short of %v for %d, and %d without %v", before, s, need, now, out)
				}
				shorter += min(1, now-before)
			}
			u := bottomless(s)
			u.Losses, u.Treaty, u.Reserve = ranges(at(r.IntN(200))), at(0), 0
			calls, _ := pay(t, u, u.Losses[0].Lo)
			for i, b := range without(t, u, out...) {
				if !slices.Contains(out, i) && b.Lo < calls[i]-1 {
					t.Fatalf("Calls of %v: %v, without %v %v", u, calls, out, b)
				}
				if b.Lo > calls[i] {
					more++
				}
			}
		}
	}
	if shorter < 1000 || more < 500 {
		t.Errorf("%d times more was short, %d times more was paid", shorter, more)
	}
}

// TestFewestMissed checks P9.14 by the calls alone: any list that is shorter is tried, and any that is as long, up to the one that is returned.
func TestFewestMissed(t *testing.T) {
	for _, s := range societies(14, 200) {
		a := ask(t, s)
		for _, list := range subsets(len(s.Members)) {
			isShort := false
			for need := a.needs.Lo; need <= a.needs.Hi; need++ {
				isShort = isShort || shortWithout(t, s, need, list...) > 0
			}
			if !a.nobody && slices.Equal(list, a.missed) {
				if !isShort {
					t.Fatalf("Missed of %v: %v, but nothing is short", s, a.missed)
				}
				break
			}
			if isShort {
				t.Fatalf("Missed of %v: %v, but something is short without %v", s, a.missed, list)
			}
		}
	}
}

// TestWider checks P9.15.
func TestWider(t *testing.T) {
	r := rand.New(rand.NewPCG(15, 9))
	changed := 0
	wider := func(x call.Range) call.Range {
		if r.IntN(2) == 0 {
			return x
		}
		return to(max(0, x.Lo-r.IntN(5)), x.Hi+r.IntN(5))
	}
	for _, s := range societies(15, 1000) {
		more := clone(s)
		for i, x := range s.Losses {
			more.Losses[i] = wider(x)
		}
		more.Treaty = wider(s.Treaty)
		a, b := ask(t, s), ask(t, more)
		if !inside(a.needs, b.needs) || !inside(a.short, b.short) {
			t.Fatalf("the calls return %v of %v, and %v of %v", a, s, b, more)
		}
		for i, x := range a.bounds {
			if !inside(x, b.bounds[i]) {
				t.Fatalf("Bounds of %v: %v, and of %v: %v", s, a.bounds, more, b.bounds)
			}
			if x != b.bounds[i] {
				changed++
			}
		}
		for _, out := range subsets(len(s.Members)) {
			now := without(t, more, out...)
			for i, x := range without(t, s, out...) {
				if !inside(x, now[i]) {
					t.Fatalf("Without of %v, %v: %v, and of %v: %v", s, out, x, more, now)
				}
			}
		}
	}
	if changed < 500 {
		t.Errorf("%d bounds are wider", changed)
	}
}

// TestAgain checks that equal calls return equal results.
func TestAgain(t *testing.T) {
	for i, s := range societies(16, 100) {
		u, list := truths(s)[0], subsets(len(s.Members))[i%2]
		first := everything(s, u, i, list)
		for range 5 {
			if now := everything(s, u, i, list); now != first {
				t.Fatalf("%s, then %s", first, now)
			}
		}
	}
}
