package call_test

import (
	"cmp"
	"fmt"
	"math/rand/v2"
	"slices"
	"testing"

	"hailstone/api"
	"hailstone/call"
)

func ints(l ...int) []int { return l }

func to(low, high int) call.Range { return call.Range{Lo: low, Hi: high} }

func at(n int) call.Range { return to(n, n) }

func ranges(l ...call.Range) []call.Range { return l }

func member(sum, class, most int) call.Member {
	return call.Member{Sum: sum, Class: class, Most: most}
}

func members(l ...call.Member) []call.Member { return l }

// equal are members with one unit each, and with these Mosts.
func equal(mosts ...int) []call.Member {
	var l []call.Member
	for _, most := range mosts {
		l = append(l, member(1, 1, most))
	}
	return l
}

func truth(treaty int, losses ...int) call.Truth {
	return call.Truth{Losses: losses, Treaty: treaty}
}

// chapter is the society of the chapter's examples.
func chapter() call.Society {
	return call.Society{
		Members: members(member(100, 2, 500), member(100, 1, 60), member(50, 2, 500)),
		Losses:  ranges(to(200, 210), at(90)),
		Treaty:  to(20, 25),
		Reserve: 30,
	}
}

// plain is a society with one loss, that nothing else pays for.
func plain(loss call.Range, l ...call.Member) call.Society {
	return call.Society{Members: l, Losses: ranges(loss)}
}

// roomy copies the list, with room behind it in which zeros show that nothing was appended.
func roomy[T any](l []T) []T { return append(make([]T, 0, len(l)+2), l...) }

func clone(s call.Society) call.Society {
	s.Members, s.Losses = roomy(s.Members), roomy(s.Losses)
	return s
}

func behind[T any](l []T) string { return fmt.Sprint(l[len(l) : len(l)+2]) }

// same reports whether the clone is still the same, and the room behind its lists too.
func same(s, before call.Society) bool {
	text := func(s call.Society) string { return fmt.Sprint(s) + behind(s.Members) + behind(s.Losses) }
	return text(s) == text(clone(before))
}

func has(r call.Range, n int) bool { return n >= r.Lo && n <= r.Hi }

// inside reports whether the first range is a part of the second one.
func inside(a, b call.Range) bool { return a.Lo >= b.Lo && a.Hi <= b.Hi }

func sumOf(l []int) int {
	sum := 0
	for _, n := range l {
		sum += n
	}
	return sum
}

func rangesOf(s call.Society) []call.Range {
	return append(slices.Clone(s.Losses), s.Treaty)
}

func numberOf(s call.Society) int {
	number := 1
	for _, r := range rangesOf(s) {
		number *= r.Hi - r.Lo + 1
	}
	return number
}

// truths are all truths of the society. They are counted like the digits of a number.
func truths(s call.Society) []call.Truth {
	var list []call.Truth
	for code := range numberOf(s) {
		var l []int
		for _, r := range rangesOf(s) {
			size := r.Hi - r.Lo + 1
			l = append(l, r.Lo+code%size)
			code /= size
		}
		last := len(l) - 1
		list = append(list, truth(l[last], l[:last:last]...))
	}
	return list
}

func needOf(s call.Society, t call.Truth) int {
	return max(0, sumOf(t.Losses)-s.Reserve-t.Treaty)
}

// needsOf are the needs of all truths, in increasing order.
func needsOf(s call.Society) []int {
	var l []int
	for _, t := range truths(s) {
		l = append(l, needOf(s, t))
	}
	slices.Sort(l)
	return slices.Compact(l)
}

func unitsOf(m call.Member) int { return m.Sum * m.Class }

// sharesOf are what those who share have to pay: their numbers are listed.
func sharesOf(l []call.Member, sharing []int, need int) []int {
	all := 0
	for _, i := range sharing {
		all += unitsOf(l[i])
	}
	pence, rest := make([]int, len(l)), make([]int, len(l))
	left := need
	for _, i := range sharing {
		rest[i] = need * unitsOf(l[i])
		for rest[i] >= all {
			pence[i]++
			rest[i] -= all
		}
		left -= pence[i]
	}
	queue := slices.Clone(sharing)
	slices.SortStableFunc(queue, func(a, b int) int { return cmp.Compare(rest[b], rest[a]) })
	for _, i := range queue[:left] {
		pence[i]++
	}
	return pence
}

// callsOf is what all members pay of the need, and what is short, if some members are not asked.
func callsOf(l []call.Member, need int, out ...int) ([]int, int) {
	calls := make([]int, len(l))
	var sharing []int
	for i := range l {
		if !slices.Contains(out, i) {
			sharing = append(sharing, i)
		}
	}
	for len(sharing) > 0 {
		shares := sharesOf(l, sharing, need)
		var rest []int
		for _, i := range sharing {
			if shares[i] > l[i].Most {
				calls[i] = l[i].Most
			} else {
				rest = append(rest, i)
			}
		}
		if len(rest) == len(sharing) {
			for i, pence := range shares {
				calls[i] += pence
			}
			return calls, 0
		}
		for _, i := range sharing {
			need -= calls[i]
		}
		sharing = rest
	}
	return calls, need
}

// boundsWithout are the bounds of what all members pay, and of what is short, if some members are not asked.
func boundsWithout(s call.Society, out ...int) ([]call.Range, call.Range) {
	var bounds []call.Range
	var short call.Range
	for n, need := range needsOf(s) {
		calls, rest := callsOf(s.Members, need, out...)
		if n == 0 {
			for _, pence := range calls {
				bounds = append(bounds, at(pence))
			}
			short = at(rest)
		}
		for i, pence := range calls {
			bounds[i] = to(min(bounds[i].Lo, pence), max(bounds[i].Hi, pence))
		}
		short = to(min(short.Lo, rest), max(short.Hi, rest))
	}
	return bounds, short
}

// broughtBy is what the rate brings: of each whole hundred one penny.
func broughtBy(l []call.Member, rate int) int {
	sum := 0
	for _, m := range l {
		pence := 0
		for pence < m.Most && 100*(pence+1) <= unitsOf(m)*rate {
			pence++
		}
		sum += pence
	}
	return sum
}

// rateOf returns -1 if no rate suffices. It tries rates that are halfway between one that does not and one that does.
func rateOf(s call.Society) int {
	greatest := slices.Max(needsOf(s))
	suffices := func(rate int) bool { return broughtBy(s.Members, rate) >= greatest }
	if !suffices(10000) {
		return -1
	}
	below, rate := -1, 10000
	for rate-below > 1 {
		if middle := (below + rate) / 2; suffices(middle) {
			rate = middle
		} else {
			below = middle
		}
	}
	return rate
}

// subsets are all increasing lists of numbers below n, the shorter ones first, those of one length in lexicographic order.
func subsets(n int) [][]int {
	var all [][]int
	for mask := range 1 << n {
		var l []int
		for i := range n {
			if mask>>i&1 == 1 {
				l = append(l, i)
			}
		}
		all = append(all, l)
	}
	slices.SortFunc(all, func(a, b []int) int {
		if len(a) != len(b) {
			return len(a) - len(b)
		}
		return slices.Compare(a, b)
	})
	return all
}

// answers are what the calls return of a society.
type answers struct {
	needs, short call.Range
	bounds       []call.Range
	rate         int // -1 if none suffices
	missed       []int
	nobody       bool // nobody is missed
}

// modelOf is what the calls have to return: it tries all truths.
func modelOf(s call.Society) answers {
	needs := needsOf(s)
	a := answers{needs: to(slices.Min(needs), slices.Max(needs)), rate: rateOf(s), nobody: true}
	a.bounds, a.short = boundsWithout(s)
	for _, l := range subsets(len(s.Members)) {
		if _, short := boundsWithout(s, l...); short.Hi > 0 {
			a.missed, a.nobody = l, false
			break
		}
	}
	return a
}

// ask makes all calls that take a society alone. It must be valid.
func ask(t *testing.T, s call.Society) answers {
	t.Helper()
	var a answers
	var e, f, g, h, k api.Errno
	a.needs, e = call.Needs(s)
	a.bounds, f = call.Bounds(s)
	a.short, g = call.Short(s)
	a.rate, h = call.Rate(s)
	a.missed, k = call.Missed(s)
	if c := call.CheckSociety(s); c != api.OK || e != api.OK || f != api.OK || g != api.OK {
		t.Fatalf("errors of %v: %v, %v, %v, %v", s, c, e, f, g)
	}
	switch {
	case h == api.ErrShort && a.rate == 0:
		a.rate = -1
	case h != api.OK:
		t.Fatalf("Rate of %v: %d, %v", s, a.rate, h)
	}
	switch {
	case k == api.ErrNone && len(a.missed) == 0:
		a.nobody = true
	case k != api.OK:
		t.Fatalf("Missed of %v: %v, %v", s, a.missed, k)
	}
	return a
}

// pay asks the package for the calls for a need, which must be valid.
func pay(t *testing.T, s call.Society, need int) ([]int, int) {
	t.Helper()
	calls, short, e := call.Calls(s, need)
	if e != api.OK || len(calls) != len(s.Members) {
		t.Fatalf("Calls of %v for %d: %v, %d, %v", s, need, calls, short, e)
	}
	return calls, short
}

// without asks the package for the bounds without some members, which there must be.
func without(t *testing.T, s call.Society, out ...int) []call.Range {
	t.Helper()
	l, e := call.Without(s, out)
	if e != api.OK || len(l) != len(s.Members) {
		t.Fatalf("Without of %v, %v: %v, %v", s, out, l, e)
	}
	return l
}

// everything is what all calls return, as a text.
func everything(s call.Society, u call.Truth, need int, list []int) string {
	text := fmt.Sprint(call.CheckSociety(s))
	n, e := call.Need(s, u)
	text += fmt.Sprintln(n, e)
	r, e := call.Needs(s)
	text += fmt.Sprintln(r, e)
	calls, short, e := call.Calls(s, need)
	text += fmt.Sprintln(calls, short, e)
	bounds, e := call.Bounds(s)
	text += fmt.Sprintln(bounds, e)
	r, e = call.Short(s)
	text += fmt.Sprintln(r, e)
	bounds, e = call.Without(s, list)
	text += fmt.Sprintln(bounds, e)
	n, e = call.Rate(s)
	text += fmt.Sprintln(n, e)
	missed, e := call.Missed(s)
	return text + fmt.Sprintln(missed, e, call.ProveCalls(s, need, calls), call.ProveCalls(s, need, list))
}

func someRange(r *rand.Rand, n int) call.Range {
	wide := ints(0, 0, 1, 2, 4, 9)[r.IntN(6)]
	return to(max(0, n-r.IntN(wide+1)), n+r.IntN(wide+1))
}

// someMember is one of so many, for losses of about this size. Its Most is often about its part of them.
func someMember(r *rand.Rand, size, number int) call.Member {
	sums := ints(1, 2, 1+r.IntN(7), 10, 1+r.IntN(1000))
	classes := ints(1, 1+r.IntN(3), 1+r.IntN(10))
	mosts := ints(100000, size, r.IntN(size+1), size/number, size/number+1, r.IntN(size/number+1), r.IntN(2))
	return member(sums[r.IntN(5)], classes[r.IntN(3)], mosts[r.IntN(7)])
}

// someSociety has some members that are equal.
func someSociety(r *rand.Rand) call.Society {
	var s call.Society
	size := ints(8, 30, 90, 400)[r.IntN(4)]
	for range r.IntN(4) {
		s.Losses = append(s.Losses, someRange(r, r.IntN(size+1)))
	}
	if r.IntN(3) > 0 {
		s.Treaty = someRange(r, r.IntN(size/4+1))
		s.Reserve = r.IntN(size/4 + 1)
	}
	number := 1 + r.IntN(5)
	for n := range number {
		m := someMember(r, size, number)
		if n > 0 && r.IntN(3) == 0 {
			m = s.Members[r.IntN(n)]
		}
		s.Members = append(s.Members, m)
	}
	return s
}

// societies are some valid societies, made by a fixed rule, with at most 300 truths.
func societies(seed uint64, number int) []call.Society {
	r := rand.New(rand.NewPCG(seed, 9))
	var all []call.Society
	for len(all) < number {
		if s := someSociety(r); numberOf(s) <= 300 {
			all = append(all, s)
		}
	}
	return all
}

// bottomless gives all members a Most that is not less than any need.
func bottomless(s call.Society) call.Society {
	s = clone(s)
	for i := range s.Members {
		s.Members[i].Most = 100000
	}
	return s
}

// someNeeds are needs of the society, and others.
func someNeeds(r *rand.Rand, s call.Society) []int {
	needs := needsOf(s)
	return ints(0, 1, needs[0], needs[len(needs)/2], needs[len(needs)-1], r.IntN(50), r.IntN(3000))
}
