package treaty_test

import (
	"fmt"
	"math/rand/v2"
	"slices"
	"testing"

	"hailstone/api"
	"hailstone/treaty"
)

func ints(l ...int) []int { return l }

func to(low, high int) treaty.Range { return treaty.Range{Lo: low, Hi: high} }

func at(n int) treaty.Range { return to(n, n) }

func ranges(l ...treaty.Range) []treaty.Range { return l }

func quota(part, price, of int) treaty.Treaty {
	return treaty.Treaty{Kind: treaty.Quota, Part: part, Price: price, Of: of}
}

func excess(above, most, times, price, of int) treaty.Treaty {
	return treaty.Treaty{Kind: treaty.Excess, Above: above, Most: most, Times: times, Price: price, Of: of}
}

func report(n, low, high int) treaty.Report {
	return treaty.Report{Treaty: n, Paid: to(low, high)}
}

// chapter is the programme of the chapter's examples, with some reports.
func chapter(reports ...treaty.Report) treaty.Programme {
	return treaty.Programme{
		Losses:   ranges(to(100, 120), at(300)),
		Reserve:  200,
		Treaties: []treaty.Treaty{quota(25, 50, -1), excess(50, 100, 0, 30, -1), excess(20, 40, 1, 5, 0)},
		Reports:  reports,
	}
}

// plain is a programme in which all losses are known.
func plain(losses []int, treaties ...treaty.Treaty) treaty.Programme {
	p := treaty.Programme{Treaties: treaties}
	for _, n := range losses {
		p.Losses = append(p.Losses, at(n))
	}
	return p
}

// roomy copies the list, with room behind it in which zeros show that nothing was appended.
func roomy[T any](l []T) []T { return append(make([]T, 0, len(l)+2), l...) }

func behind[T any](l []T) string { return fmt.Sprint(l[len(l) : len(l)+2]) }

func clone(p treaty.Programme) treaty.Programme {
	p.Losses, p.Treaties, p.Reports = roomy(p.Losses), roomy(p.Treaties), roomy(p.Reports)
	return p
}

// same reports whether the clone is still the same, and the room behind its lists too.
func same(p, before treaty.Programme) bool {
	text := func(p treaty.Programme) string {
		return fmt.Sprint(p) + behind(p.Losses) + behind(p.Treaties) + behind(p.Reports)
	}
	return text(p) == text(clone(before))
}

func numberOf(p treaty.Programme) int {
	number := 1
	for _, r := range p.Losses {
		number *= r.Hi - r.Lo + 1
	}
	return number
}

// truths are all truths of Losses. They are counted like the digits of a number.
func truths(p treaty.Programme) [][]int {
	var list [][]int
	for code := range numberOf(p) {
		var l []int
		for _, r := range p.Losses {
			size := r.Hi - r.Lo + 1
			l = append(l, r.Lo+code%size)
			code /= size
		}
		list = append(list, l)
	}
	return list
}

// outcome is what comes of a truth of Losses.
type outcome struct {
	losses      []int
	pays, keeps []int
	net         int
}

// outcomeOf plays the losses; the treaties that are out take nothing.
func outcomeOf(p treaty.Programme, losses []int, out ...int) outcome {
	n := len(p.Treaties)
	o := outcome{losses: losses, pays: make([]int, n), keeps: make([]int, n)}
	for _, loss := range losses {
		paid := slices.Clone(o.pays)
		left := loss
		for i, x := range p.Treaties {
			if x.Of == -1 && !slices.Contains(out, i) {
				o.pays[i] = paidAfter(x, paid[i], left)
				left -= o.pays[i] - paid[i]
			}
		}
		for i, x := range p.Treaties {
			if x.Of == -1 {
				continue
			}
			rest := o.pays[x.Of] - paid[x.Of]
			for k := range i {
				if p.Treaties[k].Of == x.Of {
					rest -= o.pays[k] - paid[k]
				}
			}
			o.pays[i] = paidAfter(x, paid[i], rest)
		}
		o.net += left
	}
	for i := range p.Treaties {
		o.keeps[i] = o.pays[i]
		for k, x := range p.Treaties {
			if x.Of == i {
				o.keeps[i] -= o.pays[k]
			}
		}
	}
	return o
}

// paidAfter is what the treaty paid in all, after it took its share of what reaches it.
func paidAfter(x treaty.Treaty, paid, reaches int) int {
	if x.Kind == treaty.Quota {
		hundredths := reaches * x.Part
		return paid + (hundredths-hundredths%100)/100
	}
	if reaches > x.Above+x.Most {
		reaches = x.Above + x.Most
	}
	if reaches > x.Above {
		paid += reaches - x.Above
	}
	return min(paid, x.Most*(x.Times+1))
}

func outcomes(p treaty.Programme) []outcome {
	var list []outcome
	for _, l := range truths(p) {
		list = append(list, outcomeOf(p, l))
	}
	return list
}

// isRight reports whether all reports of the programme are right in the outcome, but for those that are left out.
func (o outcome) isRight(p treaty.Programme, out ...int) bool {
	for i, x := range p.Reports {
		if !slices.Contains(out, i) && !has(x.Paid, o.pays[x.Treaty]) {
			return false
		}
	}
	return true
}

// possible reports whether the programme has a truth if some reports are left out.
func possible(p treaty.Programme, list []outcome, out ...int) bool {
	return slices.ContainsFunc(list, func(o outcome) bool { return o.isRight(p, out...) })
}

func sumOf(l []int) int {
	sum := 0
	for _, n := range l {
		sum += n
	}
	return sum
}

// subsets are all increasing lists of numbers below n, the shorter ones first, those of one length in lexicographic order.
func subsets(n int) [][]int {
	var all [][]int
	for mask := range 1 << n {
		var l []int
		for i := range n {
			if mask>>i&1 == 1 {
				l = append(l, i)
			}
		}
		all = append(all, l)
	}
	slices.SortFunc(all, byLength)
	return all
}

func byLength(a, b []int) int {
	if len(a) != len(b) {
		return len(a) - len(b)
	}
	return slices.Compare(a, b)
}

// sets are all sets of treaties.
func sets(p treaty.Programme) [][]int {
	protectsAnother := func(n int) bool { return p.Treaties[n].Of != -1 }
	return slices.DeleteFunc(subsets(len(p.Treaties)), func(l []int) bool { return slices.ContainsFunc(l, protectsAnother) })
}

func priceOf(p treaty.Programme, set []int) int {
	sum := 0
	for _, n := range set {
		sum += p.Treaties[n].Price
	}
	return sum
}

// keptWith is what the society keeps with the set alone.
func keptWith(p treaty.Programme, set []int) treaty.Range {
	var out []int
	for i := range p.Treaties {
		if !slices.Contains(set, i) {
			out = append(out, i)
		}
	}
	var kept treaty.Range
	for i, l := range truths(p) {
		kept = widen(kept, outcomeOf(p, l, out...).net, i == 0)
	}
	return kept
}

// widen returns the range with the number in it; first says that there was no number before.
func widen(r treaty.Range, n int, first bool) treaty.Range {
	if first {
		return at(n)
	}
	return to(min(r.Lo, n), max(r.Hi, n))
}

// answers are what the calls return of a programme.
type answers struct {
	bounds      []treaty.Bound
	net         treaty.Range
	first       int
	leave       []int
	none, false bool // there is no wrong report; there is no truth
	set         []int
	price       int
	short       bool // no set suffices
}

// modelOf is what the calls have to return: it tries all truths, and all sets.
func modelOf(p treaty.Programme) answers {
	all := outcomes(p)
	a := answers{first: -1}
	a.addSet(p)
	a.addReports(p, all)
	if a.false {
		return a
	}
	a.addBounds(p, all)
	return a
}

func (a *answers) addBounds(p treaty.Programme, all []outcome) {
	a.bounds = make([]treaty.Bound, len(p.Treaties))
	first := true
	for _, o := range all {
		if !o.isRight(p) {
			continue
		}
		for i := range a.bounds {
			b := &a.bounds[i]
			b.Pays, b.Keeps = widen(b.Pays, o.pays[i], first), widen(b.Keeps, o.keeps[i], first)
		}
		a.net = widen(a.net, o.net, first)
		first = false
	}
}

func (a *answers) addReports(p treaty.Programme, all []outcome) {
	n := len(p.Reports)
	for _, l := range subsets(n) {
		if possible(p, all, l...) {
			a.leave = l
			break
		}
	}
	a.false = len(a.leave) > 0
	for i := n - 1; i >= 0; i-- {
		later := ints()
		for k := i + 1; k < n; k++ {
			later = append(later, k)
		}
		if !possible(p, all, later...) {
			a.first = i
		}
	}
	if a.first < 0 {
		a.first, a.none = 0, true
	}
}

func (a *answers) addSet(p treaty.Programme) {
	sufficient := slices.DeleteFunc(sets(p), func(l []int) bool { return keptWith(p, l).Hi > p.Reserve })
	if len(sufficient) == 0 {
		a.short = true
		return
	}
	slices.SortFunc(sufficient, func(x, y []int) int {
		if priceOf(p, x) != priceOf(p, y) {
			return priceOf(p, x) - priceOf(p, y)
		}
		return byLength(x, y)
	})
	a.set, a.price = sufficient[0], priceOf(p, sufficient[0])
}

// ask makes all calls that take a programme alone. It must be valid, and their errors must agree with each other.
func ask(t *testing.T, p treaty.Programme) answers {
	t.Helper()
	var a answers
	if e := treaty.CheckProgramme(p); e != api.OK {
		t.Fatalf("CheckProgramme of %v: %v", p, e)
	}
	var e, f, g, h, k api.Errno
	a.bounds, e = treaty.Bounds(p)
	a.net, f = treaty.Net(p)
	a.first, g = treaty.First(p)
	a.leave, h = treaty.Leave(p)
	a.set, a.price, k = treaty.Cheapest(p)
	switch [4]api.Errno{e, f, g, h} {
	case [4]api.Errno{api.OK, api.OK, api.ErrNone, api.OK}:
		a.none = true
	case [4]api.Errno{api.ErrFalse, api.ErrFalse, api.OK, api.OK}:
		a.false = true
	default:
		t.Fatalf("errors of %v: %v, %v, %v, %v", p, e, f, g, h)
	}
	a.short = k == api.ErrShort
	if k != api.OK && !a.short {
		t.Fatalf("Cheapest of %v: %v", p, k)
	}
	if a.false && (len(a.bounds) > 0 || a.net != at(0)) || a.none && a.first != 0 || a.short && (len(a.set) > 0 || a.price != 0) {
		t.Fatalf("results with errors of %v: %v", p, a)
	}
	return a
}

// play asks the package for what is paid for the losses, which must be a truth of Losses.
func play(t *testing.T, p treaty.Programme, losses []int) ([]int, int) {
	t.Helper()
	pays, net, e := treaty.Play(p, losses)
	if e != api.OK || len(pays) != len(p.Treaties) {
		t.Fatalf("Play of %v, %v: %v, %d, %v", p, losses, pays, net, e)
	}
	return pays, net
}

// kept asks the package for what is kept with the set, which must be one.
func kept(t *testing.T, p treaty.Programme, set []int) treaty.Range {
	t.Helper()
	r, e := treaty.Kept(p, set)
	if e != api.OK {
		t.Fatalf("Kept of %v, %v: %v, %v", p, set, r, e)
	}
	return r
}

func has(r treaty.Range, n int) bool { return n >= r.Lo && n <= r.Hi }

// inside reports whether the first range is a part of the second one.
func inside(a, b treaty.Range) bool { return a.Lo >= b.Lo && a.Hi <= b.Hi }

// narrower reports whether all bounds of the first answers are inside those of the second ones.
func narrower(a, b answers) bool {
	for i := range a.bounds {
		if !inside(a.bounds[i].Pays, b.bounds[i].Pays) || !inside(a.bounds[i].Keeps, b.bounds[i].Keeps) {
			return false
		}
	}
	return inside(a.net, b.net)
}

// everything is what all calls return, as a text.
func everything(p treaty.Programme, losses, set []int, price int) string {
	text := fmt.Sprintln(treaty.CheckProgramme(p))
	pays, net, e := treaty.Play(p, losses)
	text += fmt.Sprintln(pays, net, e)
	bounds, e := treaty.Bounds(p)
	text += fmt.Sprintln(bounds, e)
	r, e := treaty.Net(p)
	text += fmt.Sprintln(r, e)
	r, e = treaty.Kept(p, set)
	text += fmt.Sprintln(r, e)
	first, e := treaty.First(p)
	text += fmt.Sprintln(first, e)
	leave, e := treaty.Leave(p)
	text += fmt.Sprintln(leave, e)
	cheapest, sum, e := treaty.Cheapest(p)
	return text + fmt.Sprintln(cheapest, sum, e, treaty.Prove(p, set, price), treaty.Prove(p, cheapest, sum))
}

func someRange(r *rand.Rand, n, wide, last int) treaty.Range {
	return to(max(0, n-r.IntN(wide+1)), min(last, n+r.IntN(wide+1)))
}

// someTreaty is the one with the number n, for losses of about this size. Its price is often that of another one.
func someTreaty(r *rand.Rand, n, size int) treaty.Treaty {
	price := ints(0, 10, 20, 30, r.IntN(100))[r.IntN(5)]
	of := max(-1, r.IntN(2*n+3)-n-3)
	if r.IntN(5) < 2 {
		return quota(ints(1+r.IntN(100), 1+r.IntN(40), 25, 50, 100)[r.IntN(5)], price, of)
	}
	return excess(ints(0, r.IntN(size), r.IntN(size/4))[r.IntN(3)], 1+r.IntN(ints(size, size/3)[r.IntN(2)]), max(0, r.IntN(6)-2), price, of)
}

// someProgramme has losses and treaties.
func someProgramme(r *rand.Rand) treaty.Programme {
	var p treaty.Programme
	size := ints(20, 100, 400)[r.IntN(3)]
	for range ints(0, 1, 2, 2, 3, 3, 4)[r.IntN(7)] {
		p.Losses = append(p.Losses, someRange(r, r.IntN(size+1), ints(0, 1, 3, 5, 9, 40)[r.IntN(6)], 1000))
	}
	for n := range ints(0, 1, 2, 3, 4, 5, 5)[r.IntN(7)] {
		p.Treaties = append(p.Treaties, someTreaty(r, n, size))
	}
	return p
}

// withReserve gives the programme a Reserve that is often just enough for a set, or just not.
func withReserve(r *rand.Rand, p treaty.Programme) treaty.Programme {
	all := sets(p)
	p.Reserve = max(0, keptWith(p, all[r.IntN(len(all))]).Hi+ints(-1, 0, 0, 0, r.IntN(20))[r.IntN(5)])
	return p
}

// withReports adds reports of what is paid in one truth, or in one of several, and a few others.
func withReports(r *rand.Rand, p treaty.Programme) treaty.Programme {
	if len(p.Treaties) == 0 {
		return p
	}
	all := outcomes(p)
	some := func() outcome { return all[r.IntN(len(all))] }
	from := []outcome{some(), some(), some(), some()}[:1+r.IntN(4)]
	wide := ints(0, 0, 1, 2, 12)[r.IntN(5)]
	for range ints(0, 1, 2, 3, 4, 5, 5, 5)[r.IntN(8)] {
		n := r.IntN(len(p.Treaties))
		paid := from[r.IntN(len(from))].pays[n]
		if r.IntN(9) == 0 {
			paid = r.IntN(100)
		}
		p.Reports = append(p.Reports, treaty.Report{Treaty: n, Paid: someRange(r, paid, wide, 10000)})
	}
	return p
}

// programmes are some valid programmes, made by a fixed rule, with at most 200 truths of Losses.
func programmes(seed uint64, number int) []treaty.Programme {
	r := rand.New(rand.NewPCG(seed, 10))
	var all []treaty.Programme
	for len(all) < number {
		if p := someProgramme(r); numberOf(p) <= 200 {
			all = append(all, withReports(r, withReserve(r, p)))
		}
	}
	return all
}

// without is the programme without some of its reports.
func without(p treaty.Programme, out ...int) treaty.Programme {
	var rest []treaty.Report
	for i, x := range p.Reports {
		if !slices.Contains(out, i) {
			rest = append(rest, x)
		}
	}
	p.Reports = rest
	return p
}

// unreported is the programme without reports.
func unreported(p treaty.Programme) treaty.Programme {
	p.Reports = nil
	return p
}
