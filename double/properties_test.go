package double_test

import (
	"fmt"
	"math/rand/v2"
	"slices"
	"testing"

	"hailstone/api"
	"hailstone/double"
	"hailstone/parcel"
)

// TestCases checks that there are enough cases of each sort for the other tests.
func TestCases(t *testing.T) {
	sorts := map[string]int{}
	for _, c := range cases(2, 400) {
		if e := double.CheckCase(c); e != api.OK {
			t.Fatalf("CheckCase of %v: %v", c, e)
		}
		m, all := modelOf(c), outcomes(c)
		some := func(is func(o outcome) bool) bool { return slices.ContainsFunc(all, is) }
		for sort, is := range map[string]bool{
			"the book contradicts itself": m.fails,
			"no truth":                    m.false,
			"truths":                      m.none,
			"claims with truths":          m.none && len(c.Claims) > 1,
			"some truths of the book":     !m.fails && len(all) < numberOf(c),
			"a later first one":           m.false && m.first > 1,
			"two are struck":              len(m.leave) == 2,
			"three are struck":            len(m.leave) >= 3,
			"another one is struck":       m.false && len(m.leave) == 1 && m.leave[0] != m.first,
			"no covers":                   len(c.Covers) == 0,
			"five covers":                 len(c.Covers) == 5,
			"one society":                 c.Societies == 1,
			"three societies":             c.Societies == 3,
			"nobody pays":                 m.none && m.total.Hi == 0,
			"somebody pays":               m.none && m.total.Lo > 0,
			"bounds are wide":             m.none && m.total.Hi > m.total.Lo+5,
			"a Split's parcel":            c.Parcel >= len(c.Book.Parcels),
			"more than one is entered":    len(c.Book.Entries) > 1,
			"shared by three":             some(func(o outcome) bool { return len(o.pays) == 3 && slices.Min(o.pays) > 0 && slices.Max(o.refund) > 0 }),
			"a refund":                    some(func(o outcome) bool { return slices.Max(o.refund) > 0 }),
			"not all is paid":             some(func(o outcome) bool { return sumOf(o.pays) < o.amount && sumOf(o.pays) > 0 }),
			"claims narrow the bounds":    m.none && modelOf(without(c, 0, 1, 2, 3, 4)).total != m.total,
		} {
			if is {
				sorts[sort]++
			}
		}
	}
	for sort, least := range map[string]int{"the book contradicts itself": 20, "no truth": 80, "truths": 150, "claims with truths": 50, "some truths of the book": 30, "a later first one": 30, "two are struck": 20, "three are struck": 5, "another one is struck": 5, "no covers": 30, "five covers": 30, "one society": 80, "three societies": 80, "nobody pays": 30, "somebody pays": 30, "bounds are wide": 15, "a Split's parcel": 20, "more than one is entered": 100, "shared by three": 10, "a refund": 50, "not all is paid": 50, "claims narrow the bounds": 20} {
		if sorts[sort] < least {
			t.Errorf("%s: %d", sort, sorts[sort])
		}
	}
}

// without is the case without some of its claims.
func without(c double.Case, struck ...int) double.Case {
	var rest []double.Claim
	for i, x := range c.Claims {
		if !slices.Contains(struck, i) {
			rest = append(rest, x)
		}
	}
	c.Claims = rest
	return c
}

// TestModel checks P8.3 and P8.5.
func TestModel(t *testing.T) {
	for _, c := range cases(3, 600) {
		if m, a := modelOf(c), ask(t, c); fmt.Sprint(a) != fmt.Sprint(m) {
			t.Fatalf("the calls return %v of %v, not %v", a, c, m)
		}
	}
}

// TestPlayOfModel checks P8.2 in each choice, also in those that are no truths.
func TestPlayOfModel(t *testing.T) {
	for _, c := range cases(4, 200) {
		for _, l := range choices(c) {
			o, ok := outcomeOf(c, l)
			pays, n, e := double.Play(c, l)
			if !ok || !o.isRight(c) {
				if e != api.ErrFalse || len(pays) > 0 || n != 0 {
					t.Fatalf("Play of %v, %v: %v, %d, %v", c, l, pays, n, e)
				}
				continue
			}
			if !slices.Equal(pays, o.pays) || n != o.amount || e != api.OK {
				t.Fatalf("Play of %v, %v: %v, %d, %v, not %v", c, l, pays, n, e, o)
			}
		}
	}
}

// TestShowOfCases checks P8.4: the truth is played.
func TestShowOfCases(t *testing.T) {
	for _, c := range cases(5, 400) {
		a := ask(t, c)
		for k, b := range a.bounds {
			for high, want := range map[bool]int{false: b.Pays.Lo, true: b.Pays.Hi} {
				l, e := double.Show(c, k, high)
				pays, _, f := double.Play(c, l)
				if e != api.OK || f != api.OK || pays[k] != want {
					t.Fatalf("Show of %v, %d, %v: %v, %v, in which %v is paid, %v, not %d", c, k, high, l, e, pays, f, want)
				}
			}
		}
	}
}

// TestSettleOfAll checks P8.1 and P8.6 for all small amounts and sums, and some greater ones.
func TestSettleOfAll(t *testing.T) {
	for amount := range 12 {
		for a := range 8 {
			checkSettled(t, amount, ints(a))
			for b := range 8 {
				checkSettled(t, amount, ints(a, b))
				for c := range 8 {
					checkSettled(t, amount, ints(a, b, c))
				}
			}
		}
	}
	r := rand.New(rand.NewPCG(6, 6))
	for range 2000 {
		most := ints(10, 300, 1001, 5001)[r.IntN(4)]
		checkSettled(t, r.IntN(1001), ints(r.IntN(most), r.IntN(most), r.IntN(most))[:1+r.IntN(3)])
	}
}

func checkSettled(t *testing.T, amount int, sums []int) {
	t.Helper()
	l, e := double.Settle(amount, sums)
	if e != api.OK || !slices.Equal(l, pennies(amount, sums)) {
		t.Fatalf("Settle of %d with %v: %v, %v, not %v", amount, sums, l, e, pennies(amount, sums))
	}
	all := sumOf(sums)
	if sumOf(l) != min(amount, all) {
		t.Fatalf("Settle of %d with %v: %v, together %d", amount, sums, l, sumOf(l))
	}
	for k, n := range l {
		apart := n*all - amount*sums[k]
		if n < 0 || n > sums[k] || n > min(sums[k], amount) || all > amount && (apart <= -all || apart >= all) {
			t.Fatalf("Settle of %d with %v: %v, and %d is not its share", amount, sums, l, n)
		}
	}
}

// TestNeverTwice checks P8.6 and P8.7 in each truth.
func TestNeverTwice(t *testing.T) {
	for _, c := range cases(7, 200) {
		a := ask(t, c)
		seen := answers{bounds: make([]double.Bound, c.Societies)}
		for _, o := range outcomes(c) {
			pays, amount, e := double.Play(c, o.truth)
			if e != api.OK {
				continue
			}
			settled, e := double.Settle(amount, o.sums)
			if e != api.OK || !slices.Equal(settled, pays) || sumOf(pays) != min(amount, sumOf(o.sums)) {
				t.Fatalf("Play of %v, %v: %v, and %v settled", c, o, pays, settled)
			}
			for k, n := range pays {
				b := &seen.bounds[k]
				b.Pays, b.Refund = widen(b.Pays, n, !seen.none), widen(b.Refund, min(o.sums[k], amount)-n, !seen.none)
			}
			seen.total = widen(seen.total, sumOf(pays), !seen.none)
			seen.none = true
		}
		if a.none != seen.none {
			t.Fatalf("the calls return %v of %v, not %v", a, c, seen)
		}
		if a.none && (!slices.Equal(a.bounds, seen.bounds) || a.total != seen.total) {
			t.Fatalf("the calls return %v of %v, not %v", a, c, seen)
		}
		for _, b := range a.bounds {
			if b.Refund.Lo < 0 || b.Pays.Lo < 0 {
				t.Fatalf("the calls return %v of %v", a, c)
			}
		}
	}
}

// TestClaimsThatAreRight checks P8.7: claims that are right in some truth need not be struck.
func TestClaimsThatAreRight(t *testing.T) {
	r := rand.New(rand.NewPCG(8, 8))
	for _, c := range cases(8, 200) {
		all := outcomes(c)
		if len(all) == 0 {
			continue
		}
		o := all[r.IntN(len(all))]
		c.Claims = nil
		for range 5 {
			k := r.IntN(c.Societies)
			c.Claims = append(c.Claims, double.Claim{Society: k, Paid: someRange(r, o.pays[k], 3, 1000)})
		}
		a := ask(t, c)
		if !a.none || len(a.leave) > 0 {
			t.Fatalf("the calls return %v of %v", a, c)
		}
		if _, _, e := double.Play(c, o.truth); e != api.OK {
			t.Fatalf("Play of %v, %v: %v", c, o.truth, e)
		}
	}
}

// TestNotCovered checks P8.8.
func TestNotCovered(t *testing.T) {
	never, notThere, other := 0, 0, 0
	for _, c := range cases(9, 600) {
		c.Claims = nil
		a := ask(t, c)
		if a.fails {
			continue
		}
		covered, _ := parcel.Covered(c.Book, c.Parcel, c.Day)
		owners, _ := parcel.Owners(c.Book, c.Parcel, c.Day)
		elsewhere := !slices.ContainsFunc(c.Covers, func(v double.Cover) bool { return v.Parcel == c.Parcel })
		if covered == parcel.Never || len(owners) == 0 || elsewhere {
			if a.total != at(0) || !slices.Equal(a.bounds, make([]double.Bound, c.Societies)) {
				t.Fatalf("the calls return %v of %v", a, c)
			}
		}
		for is, n := range map[*int]bool{&never: covered == parcel.Never, &notThere: len(owners) == 0, &other: elsewhere && covered != parcel.Never} {
			if n {
				*is++
			}
		}
	}
	if never < 30 || notThere < 10 || other < 30 {
		t.Errorf("never covered: %d, not there: %d, no cover: %d", never, notThere, other)
	}
}

// TestOneMoreClaim checks P8.9.
func TestOneMoreClaim(t *testing.T) {
	r := rand.New(rand.NewPCG(10, 10))
	struck, narrowed := 0, 0
	for _, c := range cases(10, 500) {
		if len(c.Claims) == api.MaxDoubleClaims {
			c.Claims = c.Claims[1:]
		}
		others := withClaims(r, without(c, 0, 1, 2, 3, 4)).Claims
		if len(others) == 0 {
			continue
		}
		more := clone(c)
		more.Claims = slices.Insert(more.Claims, r.IntN(len(c.Claims)+1), others[0])
		a, b := ask(t, c), ask(t, more)
		if n := len(b.leave) - len(a.leave); n < 0 || n > 1 || a.fails != b.fails || a.false && !b.false {
			t.Fatalf("Leave of %v: %v, and of %v: %v", c, a, more, b)
		}
		if !b.none {
			struck += len(b.leave) - len(a.leave)
			continue
		}
		if !narrower(b, a) {
			t.Fatalf("the calls return %v of %v, and %v of %v", a, c, b, more)
		}
		if fmt.Sprint(a.bounds) != fmt.Sprint(b.bounds) {
			narrowed++
		}
	}
	if struck < 30 || narrowed < 20 {
		t.Errorf("%d more struck, %d narrowed", struck, narrowed)
	}
}

// wider widens some ranges.
func wider(r *rand.Rand, c double.Case) double.Case {
	c = clone(c)
	more := func(x *double.Range, last int) {
		if r.IntN(2) == 0 {
			*x = to(max(0, x.Lo-r.IntN(4)), min(last, x.Hi+r.IntN(4)))
		}
	}
	more(&c.Loss, 100)
	for i := range c.Covers {
		more(&c.Covers[i].Start, c.Book.Last)
	}
	for i := range c.Claims {
		more(&c.Claims[i].Paid, 1000)
	}
	return c
}

// TestWider checks P8.10.
func TestWider(t *testing.T) {
	r := rand.New(rand.NewPCG(11, 11))
	changed, fewer := 0, 0
	for _, c := range cases(11, 900) {
		more := wider(r, c)
		if numberOf(more) > api.MaxDoubleTruths {
			continue
		}
		a, b := ask(t, c), ask(t, more)
		if a.fails != b.fails || len(b.leave) > len(a.leave) || a.none && (!b.none || !narrower(a, b)) {
			t.Fatalf("the calls return %v of %v, and %v of %v", a, c, b, more)
		}
		if a.none && fmt.Sprint(a) != fmt.Sprint(b) {
			changed++
		}
		if len(b.leave) < len(a.leave) {
			fewer++
		}
	}
	if changed < 80 || fewer < 20 {
		t.Errorf("%d cases changed, %d with fewer claims struck", changed, fewer)
	}
}

// TestMoreLoss checks P8.11: in a truth, with no claims, for each loss.
func TestMoreLoss(t *testing.T) {
	r := rand.New(rand.NewPCG(12, 12))
	for _, c := range cases(12, 150) {
		all := outcomes(c)
		if len(all) == 0 {
			continue
		}
		l := all[r.IntN(len(all))].truth
		c.Claims = nil
		before, paid := 0, 0
		for loss := range 101 {
			c.Loss, l.Loss = at(loss), loss
			pays, amount, e := double.Play(c, l)
			if e != api.OK || amount < before || sumOf(pays) < paid || loss == 0 && amount != 0 {
				t.Fatalf("Play of %v, %v: %v, %d, %v; before: %d, %d", c, l, pays, amount, e, paid, before)
			}
			before, paid = amount, sumOf(pays)
		}
	}
}

// TestFirst checks P8.12 by the calls alone.
func TestFirst(t *testing.T) {
	for _, c := range cases(13, 500) {
		n, e := double.First(c)
		if e != api.OK {
			continue
		}
		before, with := c, c
		before.Claims, with.Claims = c.Claims[:n], c.Claims[:n+1]
		if a, b := ask(t, before), ask(t, with); !a.none || !b.false {
			t.Fatalf("First of %v: %d, but %v before it, %v with it", c, n, a, b)
		}
	}
}

// TestStruck checks P8.13 by the calls alone: any list that is shorter is tried, and any that is as long, up to the one that is returned.
func TestStruck(t *testing.T) {
	for _, c := range cases(14, 300) {
		l, e := double.Leave(c)
		if e != api.OK {
			continue
		}
		for _, list := range subsets(len(c.Claims)) {
			_, e := double.Total(without(c, list...))
			if slices.Equal(list, l) {
				if e != api.OK {
					t.Fatalf("Leave of %v: %v, but Total without it: %v", c, l, e)
				}
				break
			}
			if e != api.ErrFalse {
				t.Fatalf("Leave of %v: %v, but Total without %v: %v", c, l, list, e)
			}
		}
	}
}

// TestOneSociety checks P8.14: all covers belong to one of the societies.
func TestOneSociety(t *testing.T) {
	paid := 0
	for _, c := range cases(15, 300) {
		c = clone(c)
		c.Claims = nil
		only := c.Societies / 2
		for i := range c.Covers {
			c.Covers[i].Society = only
		}
		a := ask(t, c)
		for k, b := range a.bounds {
			if b.Refund != at(0) || k != only && b.Pays != at(0) {
				t.Fatalf("the calls return %v of %v", a, c)
			}
		}
		if a.none && a.bounds[only].Pays != a.total {
			t.Fatalf("the calls return %v of %v", a, c)
		}
		for _, o := range outcomes(c) {
			pays, amount, e := double.Play(c, o.truth)
			if e != api.OK || pays[only] != min(o.sums[only], amount) {
				t.Fatalf("Play of %v, %v: %v, %d, %v", c, o.truth, pays, amount, e)
			}
			paid += min(1, pays[only])
		}
	}
	if paid < 500 {
		t.Errorf("paid in %d truths", paid)
	}
}

// shuffled lists the covers and the claims in another order; it returns where each claim is now.
func shuffled(r *rand.Rand, c double.Case) (double.Case, []int) {
	other := c
	other.Covers, other.Claims = nil, nil
	for _, i := range r.Perm(len(c.Covers)) {
		other.Covers = append(other.Covers, c.Covers[i])
	}
	order := r.Perm(len(c.Claims))
	for _, i := range order {
		other.Claims = append(other.Claims, c.Claims[i])
	}
	return other, order
}

// TestAnyOrder checks P7: covers and claims in another order have the same ranges, and as many claims are struck.
func TestAnyOrder(t *testing.T) {
	r := rand.New(rand.NewPCG(16, 16))
	for _, c := range cases(16, 400) {
		other, order := shuffled(r, c)
		a, b := ask(t, c), ask(t, other)
		if !slices.Equal(a.bounds, b.bounds) || a.total != b.total || len(a.leave) != len(b.leave) || a.none != b.none || a.fails != b.fails {
			t.Fatalf("the calls return %v of %v, and %v of %v", a, c, b, other)
		}
		var struck []int
		for _, i := range b.leave {
			struck = append(struck, order[i])
		}
		if _, e := double.Total(without(c, struck...)); !a.fails && e != api.OK {
			t.Fatalf("Total of %v without %v: %v", c, struck, e)
		}
	}
}

// TestAgain checks that equal calls return equal results.
func TestAgain(t *testing.T) {
	for _, c := range cases(17, 60) {
		l := choices(c)[0]
		first := everything(c, l, 1)
		for range 5 {
			if now := everything(c, l, 1); now != first {
				t.Fatalf("%s, then %s", first, now)
			}
		}
	}
}
