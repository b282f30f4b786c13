package round_test

import (
	"math/rand/v2"
	"slices"
	"testing"

	"hailstone/api"
	"hailstone/round"
)

// TestRounds checks that there are enough rounds of each sort for the other tests.
func TestRounds(t *testing.T) {
	sorts := map[string]int{}
	for _, r := range rounds(2, 500, 1500) {
		if e := round.CheckRound(r); e != api.OK {
			t.Fatalf("CheckRound of %v: %v", r, e)
		}
		leave, proof, fewest, has := leaveOf(r), proofOf(r), fewestOf(r), planned(r)
		for sort, is := range map[string]bool{
			"a plan":                has,
			"no plan":               !has,
			"no number":             fewest == 0,
			"more adjusters":        !has && fewest > 0,
			"fewer adjusters":       has && fewest < r.Adjusters,
			"three adjusters":       fewest == 3,
			"several are left":      len(leave) > 1,
			"not the first is left": len(leave) > 0 && leave[0] > 0,
			"two prove it":          len(proof) == 2,
			"three prove it":        len(proof) == 3,
			"many farms":            len(r.Farms) == 5,
			"many days":             r.Last > 2,
		} {
			if is {
				sorts[sort]++
			}
		}
		if !has {
			continue
		}
		for n, f := range r.Farms {
			if len(daysOf(r, n)) < f.Days.Hi-f.Days.Lo+1 {
				sorts["days that are lost"]++
			}
			for m := range n {
				if togetherOf(r, n, m) {
					sorts["together"]++
				} else if f.Days.Lo <= r.Farms[m].Days.Hi && f.Days.Hi >= r.Farms[m].Days.Lo {
					sorts["not together"]++
				}
			}
		}
	}
	for sort, least := range map[string]int{"a plan": 100, "no plan": 100, "no number": 50, "more adjusters": 40, "fewer adjusters": 40, "three adjusters": 4, "several are left": 30, "not the first is left": 30, "two prove it": 40, "three prove it": 5, "many farms": 30, "many days": 20, "days that are lost": 40, "together": 100, "not together": 40} {
		if sorts[sort] < least {
			t.Errorf("%s: %d", sort, sorts[sort])
		}
	}
}

// TestWalkOfModel checks P6.1.
func TestWalkOfModel(t *testing.T) {
	rd := rand.New(rand.NewPCG(3, 3))
	for _, r := range rounds(3, 200, 4000) {
		for _, farms := range subsets(len(r.Farms)) {
			rd.Shuffle(len(farms), func(i, k int) { farms[i], farms[k] = farms[k], farms[i] })
			walk, length, e := round.Walk(r, farms)
			if least := leastOf(r, farms); least > r.Miles {
				if len(walk) != 0 || length != 0 || e != api.ErrShort {
					t.Fatalf("Walk of %v, %v: %v, %d, %v", r, farms, walk, length, e)
				}
			} else if length != least || e != api.OK || lengthOf(r, walk) != length || len(walk) != len(farms) || !subset(farms, walk) {
				t.Fatalf("Walk of %v, %v: %v, %d, %v, not %d", r, farms, walk, length, e, least)
			}
		}
	}
}

// TestPlansOfModel checks P6.2: each list of visits is tried, with some that are not of the round.
func TestPlansOfModel(t *testing.T) {
	proved := 0
	for _, r := range rounds(4, 200, 200) {
		all := slices.Collect(plans(r))
		is := func(list []round.Visit) bool {
			return slices.ContainsFunc(all, func(plan []round.Visit) bool { return slices.Equal(plan, list) })
		}
		plan, e := round.Show(r)
		if (e == api.OK) != (len(all) > 0) || e == api.OK && !is(plan) || e != api.OK && (e != api.ErrShort || len(plan) != 0) {
			t.Fatalf("Show of %v: %v, %v", r, plan, e)
		}
		wider := clone(r)
		wider.Adjusters, wider.Miles = min(3, r.Adjusters+1), 30
		for i := range wider.Farms {
			days := &wider.Farms[i].Days
			*days = to(max(0, days.Lo-1), min(r.Last, days.Hi+1))
		}
		if choices(wider) > 1000 {
			continue
		}
		for list := range lists(wider) {
			if round.ProvePlan(r, list) != is(list) {
				t.Fatalf("ProvePlan of %v, %v: %v", r, list, !is(list))
			}
			proved++
		}
		for _, list := range all {
			if !round.ProvePlan(r, list) {
				t.Fatalf("ProvePlan of %v, %v", r, list)
			}
		}
	}
	if proved < 1000 {
		t.Errorf("%d lists", proved)
	}
}

// TestCallsOfModel checks P6.3, P6.4, P6.5 and P6.6 by all plans.
func TestCallsOfModel(t *testing.T) {
	for _, r := range rounds(5, 300, 1500) {
		fewest, want := fewestOf(r), api.OK
		if fewest == 0 {
			want = api.ErrShort
		}
		if n, e := round.Fewest(r); n != fewest || e != want {
			t.Fatalf("Fewest of %v: %d, %v, not %d", r, n, e, fewest)
		}
		if l, e := round.Leave(r); !slices.Equal(l, leaveOf(r)) || e != api.OK {
			t.Fatalf("Leave of %v: %v, %v, not %v", r, l, e, leaveOf(r))
		}
		for _, list := range subsets(len(r.Farms)) {
			if is := round.Prove(r, list); is != !planned(only(r, list...)) {
				t.Fatalf("Prove of %v, %v: %v", r, list, is)
			}
		}
		if planned(r) {
			if l, e := round.Proof(r); len(l) != 0 || e != api.ErrNone {
				t.Fatalf("Proof of %v: %v, %v", r, l, e)
			}
			wantFarms(t, r)
			continue
		}
		if l, e := round.Proof(r); !slices.Equal(l, proofOf(r)) || e != api.OK {
			t.Fatalf("Proof of %v: %v, %v, not %v", r, l, e, proofOf(r))
		}
		for n := range r.Farms {
			if l, e := round.Days(r, n); len(l) != 0 || e != api.ErrShort {
				t.Fatalf("Days of %v, %d: %v, %v", r, n, l, e)
			}
			for m := range n {
				if is, e := round.Together(r, n, m); is || e != api.ErrShort {
					t.Fatalf("Together of %v, %d, %d: %v, %v", r, n, m, is, e)
				}
			}
		}
	}
}

// wantFarms checks Days and Together of a round that has a plan.
func wantFarms(t *testing.T, r round.Round) {
	t.Helper()
	for n := range r.Farms {
		if l, e := round.Days(r, n); !slices.Equal(l, daysOf(r, n)) || e != api.OK {
			t.Fatalf("Days of %v, %d: %v, %v, not %v", r, n, l, e, daysOf(r, n))
		}
		for m := range r.Farms {
			if n == m {
				continue
			}
			if is, e := round.Together(r, n, m); is != togetherOf(r, n, m) || e != api.OK {
				t.Fatalf("Together of %v, %d, %d: %v, %v", r, n, m, is, e)
			}
		}
	}
}

// TestGreatRounds checks P6.3 to P6.6 for some rounds with very many lists of visits.
func TestGreatRounds(t *testing.T) {
	short := full()
	short.Miles = 20
	tight := full()
	tight.Last = 1
	for i := range tight.Farms {
		tight.Farms[i].Days = to(0, 1)
	}
	for _, r := range []round.Round{short, tight, on(tight, 4, 1)} {
		if n, e := round.Fewest(r); n != fewestOf(r) || (e == api.OK) != (n > 0) {
			t.Errorf("Fewest of %v: %d, %v", r, n, e)
		}
		if l, e := round.Leave(r); !slices.Equal(l, leaveOf(r)) || e != api.OK {
			t.Errorf("Leave of %v: %v, %v", r, l, e)
		}
		if planned(r) {
			wantFarms(t, r)
		} else if l, e := round.Proof(r); !slices.Equal(l, proofOf(r)) || e != api.OK {
			t.Errorf("Proof of %v: %v, %v", r, l, e)
		}
	}
	for n := range full().Farms {
		if l, e := round.Days(full(), n); !slices.Equal(l, ints(0, 1, 2, 3, 4, 5)) || e != api.OK {
			t.Errorf("Days of %d: %v, %v", n, l, e)
		}
	}
}

// TestPlanOrProof checks P6.7.
func TestPlanOrProof(t *testing.T) {
	for _, r := range rounds(7, 400, 20000) {
		plan, e := round.Show(r)
		proof, f := round.Proof(r)
		if (e == api.OK) == (f == api.OK) {
			t.Fatalf("Show, Proof of %v: %v, %v, %v, %v", r, plan, e, proof, f)
		}
		if round.ProvePlan(r, plan) != (e == api.OK) || round.Prove(r, proof) != (f == api.OK) || round.Prove(r, but(r)) != (f == api.OK) {
			t.Fatalf("ProvePlan, Prove of %v: %v, %v", r, plan, proof)
		}
	}
}

// TestWalks checks P6.8.
func TestWalks(t *testing.T) {
	short, long := 0, 0
	for _, r := range rounds(8, 150, 20000) {
		for _, farms := range subsets(len(r.Farms)) {
			walk, length, e := round.Walk(r, farms)
			if e != api.OK {
				short++
				continue
			}
			long++
			slices.Reverse(walk)
			if lengthOf(r, walk) != length {
				t.Fatalf("Walk of %v, %v: in the reverse order %v, with %d", r, farms, walk, lengthOf(r, walk))
			}
			for i, n := range farms {
				if length < 2*apart(r.Home, r.Farms[n].At) {
					t.Fatalf("Walk of %v, %v: %d", r, farms, length)
				}
				if _, less, e := round.Walk(r, slices.Delete(slices.Clone(farms), i, i+1)); less > length || e != api.OK {
					t.Fatalf("Walk of %v, %v: %d, and without %d: %d, %v", r, farms, length, n, less, e)
				}
			}
		}
	}
	if short < 200 || long < 500 {
		t.Errorf("%d sets that can be walked, %d that cannot", long, short)
	}
}

// wantMore checks that in the second round, with as many farms or more, no days of the first one's farms are lost, and none of them are no longer together.
func wantMore(t *testing.T, r, more round.Round) (gained bool) {
	t.Helper()
	for n := range r.Farms {
		before, after := daysFrom(t, r, n), daysFrom(t, more, n)
		if !subset(before, after) {
			t.Fatalf("Days of %v, %d: %v, and of %v: %v", r, n, before, more, after)
		}
		gained = gained || len(after) > len(before)
		for m := range n {
			before, after := togetherFrom(t, r, n, m), togetherFrom(t, more, n, m)
			if before && !after {
				t.Fatalf("Together of %v, %d, %d, but not of %v", r, n, m, more)
			}
		}
	}
	return gained
}

// TestMoreRoom checks P6.9.
func TestMoreRoom(t *testing.T) {
	rd := rand.New(rand.NewPCG(9, 9))
	gained, fewer := map[int]int{}, map[int]int{}
	for _, r := range rounds(9, 1000, 20000) {
		for kind := range 3 {
			more := clone(r)
			switch kind {
			case 0:
				more.Miles = min(30, r.Miles+1+rd.IntN(6))
			case 1:
				more.Adjusters = min(3, r.Adjusters+1)
			case 2:
				days := &more.Farms[rd.IntN(len(r.Farms))].Days
				*days = to(max(0, days.Lo-rd.IntN(2)), min(r.Last, days.Hi+1))
			}
			if wantMore(t, r, more) {
				gained[kind]++
			}
			before, after := left(t, r), left(t, more)
			if len(after) > len(before) {
				t.Fatalf("Leave of %v: %v, and of %v: %v", r, before, more, after)
			}
			if len(after) < len(before) {
				fewer[kind]++
			}
		}
	}
	for kind := range 3 {
		if gained[kind] < 20 || fewer[kind] < 10 {
			t.Errorf("%d: %d with more days, %d with fewer farms given up", kind, gained[kind], fewer[kind])
		}
	}
}

// TestOneMoreFarm checks P6.10.
func TestOneMoreFarm(t *testing.T) {
	rd := rand.New(rand.NewPCG(10, 10))
	lost, more := 0, 0
	for _, r := range rounds(10, 1000, 20000) {
		if len(r.Farms) == api.MaxRoundFarms {
			continue
		}
		next := with(r, someFarm(rd, r))
		for n := range r.Farms {
			before, after := daysFrom(t, r, n), daysFrom(t, next, n)
			if !subset(after, before) {
				t.Fatalf("Days of %v, %d: %v, and of %v: %v", r, n, before, next, after)
			}
			if len(after) < len(before) {
				lost++
			}
		}
		before, after := left(t, r), left(t, next)
		if len(after) < len(before) || len(after) > len(before)+1 {
			t.Fatalf("Leave of %v: %v, and of %v: %v", r, before, next, after)
		}
		if len(after) > len(before) {
			more++
		}
	}
	if lost < 100 || more < 50 {
		t.Errorf("%d with fewer days, %d with more farms given up", lost, more)
	}
}

// eachAlone reports whether each farm alone can be walked.
func eachAlone(r round.Round) bool {
	return !slices.ContainsFunc(but(r), func(n int) bool {
		_, _, e := round.Walk(r, ints(n))
		return e != api.OK
	})
}

// TestFewestAdjusters checks P6.11.
func TestFewestAdjusters(t *testing.T) {
	alone := 0
	for _, r := range rounds(11, 600, 20000) {
		n, e := round.Fewest(r)
		for adjusters := 1; adjusters <= 3; adjusters++ {
			other := r
			other.Adjusters = adjusters
			if hasPlan(t, other) != (e == api.OK && adjusters >= n) {
				t.Fatalf("Fewest of %v: %d, %v, and a plan with %d", r, n, e, adjusters)
			}
			if m, f := round.Fewest(other); m != n || f != e {
				t.Fatalf("Fewest of %v: %d, %v, and of %v: %d, %v", r, n, e, other, m, f)
			}
		}
		if !eachAlone(r) && e != api.ErrShort {
			t.Fatalf("Fewest of %v: %d, %v", r, n, e)
		}
		enough := only(r, but(r)[:min(3, len(r.Farms))]...)
		enough.Adjusters = len(enough.Farms)
		if eachAlone(enough) {
			alone++
		}
		if hasPlan(t, enough) != eachAlone(enough) {
			t.Fatalf("Show of %v", enough)
		}
	}
	if alone < 200 {
		t.Errorf("%d with enough adjusters", alone)
	}
}

// TestGivenUp checks P6.12, and that of the lists of the same length none before the smallest set can be given up.
func TestGivenUp(t *testing.T) {
	for _, r := range rounds(12, 400, 20000) {
		l := left(t, r)
		if !hasPlan(t, only(r, but(r, l...)...)) || (len(l) == 0) != hasPlan(t, r) {
			t.Fatalf("Leave of %v: %v", r, l)
		}
		for _, other := range subsets(len(r.Farms)) {
			if slices.Equal(other, l) {
				break
			}
			if hasPlan(t, only(r, but(r, other...)...)) {
				t.Fatalf("Leave of %v: %v, and not %v", r, l, other)
			}
		}
	}
}

// TestProofs checks P6.13, and that of the lists of the same length none before the smallest proof is one.
func TestProofs(t *testing.T) {
	several := 0
	for _, r := range rounds(13, 400, 20000) {
		proof, e := round.Proof(r)
		if e == api.ErrNone {
			continue
		}
		for i := range proof {
			if less := slices.Delete(slices.Clone(proof), i, i+1); round.Prove(r, less) {
				t.Fatalf("Proof of %v: %v, and %v", r, proof, less)
			}
		}
		set, proofs := left(t, r), 0
		for _, list := range subsets(len(r.Farms)) {
			if !round.Prove(r, list) {
				continue
			}
			if proofs == 0 && !slices.Equal(list, proof) {
				t.Fatalf("Proof of %v: %v, and not %v", r, proof, list)
			}
			proofs++
			if !slices.ContainsFunc(set, func(n int) bool { return slices.Contains(list, n) }) {
				t.Fatalf("Leave of %v: %v, which has no farm of %v", r, set, list)
			}
		}
		if proofs > 2 {
			several++
		}
	}
	if several < 50 {
		t.Errorf("%d with several proofs", several)
	}
}

// TestDaysAlone checks P6.14: the round has a plan with a day of the farm alone, or none.
func TestDaysAlone(t *testing.T) {
	open, lost := 0, 0
	for _, r := range rounds(14, 400, 20000) {
		for n, f := range r.Farms {
			days := daysFrom(t, r, n)
			for day := f.Days.Lo; day <= f.Days.Hi; day++ {
				alone := on(r, n, day)
				has := slices.Contains(days, day)
				if hasPlan(t, alone) != has {
					t.Fatalf("Days of %v, %d: %v, and of the day %d alone: %v", r, n, days, day, !has)
				}
				if has {
					open++
				} else {
					lost++
				}
			}
			if !slices.IsSorted(days) || len(slices.Compact(slices.Clone(days))) < len(days) {
				t.Fatalf("Days of %v, %d: %v", r, n, days)
			}
			if len(days) > 0 && (days[0] < f.Days.Lo || days[len(days)-1] > f.Days.Hi) {
				t.Fatalf("Days of %v, %d: %v", r, n, days)
			}
		}
	}
	if open < 300 || lost < 300 {
		t.Errorf("%d days, and %d that are not", open, lost)
	}
}

// TestMirrored checks P6.15, and the same for Y, and for X and Y exchanged.
func TestMirrored(t *testing.T) {
	exchanged := func(r round.Round) round.Round {
		r = clone(r)
		r.Home = point(r.Home.Y, r.Home.X)
		for i, f := range r.Farms {
			r.Farms[i].At = point(f.At.Y, f.At.X)
		}
		return r
	}
	for _, r := range append(rounds(15, 150, 20000), full()) {
		want := everything(r)
		plan, e := round.Show(r)
		for _, other := range []round.Round{mirrored(r), exchanged(r), mirrored(exchanged(r))} {
			if got := everything(other); got != want {
				t.Fatalf("of %v: %s, and of %v: %s", r, want, other, got)
			}
			if round.ProvePlan(other, plan) != (e == api.OK) {
				t.Fatalf("Show of %v: %v, which is no plan of %v", r, plan, other)
			}
		}
	}
}

// TestAnyOrder checks P7: farms can be listed in any order.
func TestAnyOrder(t *testing.T) {
	rd := rand.New(rand.NewPCG(16, 16))
	for _, r := range rounds(16, 300, 20000) {
		order := rd.Perm(len(r.Farms))
		other := only(r, order...)
		if len(left(t, other)) != len(left(t, r)) {
			t.Fatalf("Leave of %v: %v, and of %v: %v", r, left(t, r), other, left(t, other))
		}
		p, e := round.Proof(r)
		q, f := round.Proof(other)
		if len(p) != len(q) || e != f {
			t.Fatalf("Proof of %v: %v, %v, and of %v: %v, %v", r, p, e, other, q, f)
		}
		n, e := round.Fewest(r)
		m, f := round.Fewest(other)
		if n != m || e != f {
			t.Fatalf("Fewest of %v: %d, %v, and of %v: %d, %v", r, n, e, other, m, f)
		}
		for i, n := range order {
			if a, b := daysFrom(t, r, n), daysFrom(t, other, i); !slices.Equal(a, b) {
				t.Fatalf("Days of %v, %d: %v, and of %v, %d: %v", r, n, a, other, i, b)
			}
			for k, m := range order[:i] {
				if togetherFrom(t, r, n, m) != togetherFrom(t, other, i, k) {
					t.Fatalf("Together of %v, %d, %d, and of %v, %d, %d", r, n, m, other, i, k)
				}
			}
		}
	}
}
