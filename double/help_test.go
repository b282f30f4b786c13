package double_test

import (
	"fmt"
	"math/rand/v2"
	"slices"
	"testing"

	"hailstone/api"
	"hailstone/double"
	"hailstone/parcel"
)

func ints(l ...int) []int { return l }

func to(low, high int) double.Range { return double.Range{Lo: low, Hi: high} }

func at(n int) double.Range { return to(n, n) }

func days(low, high int) parcel.Range { return parcel.Range{Lo: low, Hi: high} }

func field(owner, value, low, high int) parcel.Parcel {
	return parcel.Parcel{Owner: owner, Value: value, Sown: days(low, high)}
}

func sell(n, from, into, low, high int) parcel.Entry {
	return parcel.Entry{Kind: parcel.Sell, Parcel: n, From: from, To: into, Day: days(low, high)}
}

func split(n, part, low, high int) parcel.Entry {
	return parcel.Entry{Kind: parcel.Split, Parcel: n, Part: part, Day: days(low, high)}
}

func harvest(n, low, high int) parcel.Entry {
	return parcel.Entry{Kind: parcel.Harvest, Parcel: n, Day: days(low, high)}
}

// cover is one of the parcel 0, up to the day 9.
func cover(society, owner, sum, low, high int) double.Cover {
	return double.Cover{Society: society, Owner: owner, Sum: sum, Until: 9, Start: to(low, high)}
}

func claim(society, low, high int) double.Claim {
	return double.Claim{Society: society, Paid: to(low, high)}
}

func truth(sold []int, starts []int, loss int, sown ...int) double.Truth {
	return double.Truth{Book: parcel.Truth{Days: sold, Sown: sown}, Starts: starts, Loss: loss}
}

// chapter is the case of the chapter's examples, with some claims.
func chapter(claims ...double.Claim) double.Case {
	return double.Case{
		Book:      parcel.Book{Last: 9, Owners: 2, Parcels: []parcel.Parcel{field(0, 100, 0, 0)}, Entries: []parcel.Entry{sell(0, 0, 1, 4, 5)}},
		Societies: 2, Day: 4, Loss: to(40, 50),
		Covers: []double.Cover{cover(0, 0, 60, 1, 1), cover(1, 0, 90, 3, 5), cover(1, 1, 50, 0, 0)},
		Claims: claims,
	}
}

// untrue is the chapter's case with a book that contradicts itself.
func untrue(claims ...double.Claim) double.Case {
	c := chapter(claims...)
	c.Book.Entries[0] = sell(0, 1, 0, 4, 5)
	return c
}

// plain is a case in which all is known: a parcel of 100, with a loss of all of it, and a cover of each society.
func plain(value int, sums ...int) double.Case {
	c := double.Case{
		Book:      parcel.Book{Last: 9, Owners: 2, Parcels: []parcel.Parcel{field(0, value, 0, 0)}},
		Societies: len(sums), Day: 4, Loss: at(100),
	}
	for society, sum := range sums {
		c.Covers = append(c.Covers, cover(society, 0, sum, 0, 0))
	}
	return c
}

// roomy copies the list, with room behind it in which zeros show that nothing was appended.
func roomy[T any](l []T) []T { return append(make([]T, 0, len(l)+2), l...) }

func clone(c double.Case) double.Case {
	c.Book.Parcels, c.Book.Entries = roomy(c.Book.Parcels), roomy(c.Book.Entries)
	c.Covers, c.Claims = roomy(c.Covers), roomy(c.Claims)
	return c
}

func cloneTruth(t double.Truth) double.Truth {
	return double.Truth{Book: parcel.Truth{Days: roomy(t.Book.Days), Sown: roomy(t.Book.Sown)}, Starts: roomy(t.Starts), Loss: t.Loss}
}

func behind[T any](l []T) string { return fmt.Sprint(l[len(l) : len(l)+2]) }

// same reports whether the clone is still the same, and the room behind its lists too.
func same(c, before double.Case) bool {
	text := func(c double.Case) string {
		return fmt.Sprint(c) + behind(c.Book.Parcels) + behind(c.Book.Entries) + behind(c.Covers) + behind(c.Claims)
	}
	return text(c) == text(clone(before))
}

func sameTruth(t, before double.Truth) bool {
	text := func(t double.Truth) string {
		return fmt.Sprint(t) + behind(t.Book.Days) + behind(t.Book.Sown) + behind(t.Starts)
	}
	return text(t) == text(cloneTruth(before))
}

// rangesOf are all ranges of the case, but for those of its claims.
func rangesOf(c double.Case) []double.Range {
	var l []double.Range
	for _, e := range c.Book.Entries {
		l = append(l, double.Range(e.Day))
	}
	for _, p := range c.Book.Parcels {
		l = append(l, double.Range(p.Sown))
	}
	for _, v := range c.Covers {
		l = append(l, v.Start)
	}
	return append(l, c.Loss)
}

func numberOf(c double.Case) int {
	number := 1
	for _, r := range rangesOf(c) {
		number *= r.Hi - r.Lo + 1
	}
	return number
}

// choices are all choices of one number of each range. They are counted like the digits of a number.
func choices(c double.Case) []double.Truth {
	var list []double.Truth
	for code := range numberOf(c) {
		var l []int
		for _, r := range rangesOf(c) {
			size := r.Hi - r.Lo + 1
			l = append(l, r.Lo+code%size)
			code /= size
		}
		entries, parcels := len(c.Book.Entries), len(c.Book.Parcels)
		sold, l := l[:entries:entries], l[entries:]
		sown, l := l[:parcels:parcels], l[parcels:]
		last := len(l) - 1
		list = append(list, truth(sold, l[:last:last], l[last], sown...))
	}
	return list
}

// outcome is what comes of a truth.
type outcome struct {
	truth              double.Truth
	amount             int
	sums, pays, refund []int
}

// outcomeOf returns false if it is no truth of the book.
func outcomeOf(c double.Case, t double.Truth) (outcome, bool) {
	all, e := parcel.Play(c.Book, t.Book, c.Day)
	if e != api.OK {
		return outcome{}, false
	}
	p := all[c.Parcel]
	o := outcome{truth: t, sums: make([]int, c.Societies), refund: make([]int, c.Societies)}
	for 100*(o.amount+1) <= p.Value*t.Loss {
		o.amount++
	}
	for i, v := range c.Covers {
		switch {
		case v.Parcel != c.Parcel, !p.There, !p.Covered, p.Owner != v.Owner, t.Starts[i] > c.Day, v.Until < c.Day:
		default:
			o.sums[v.Society] += v.Sum
		}
	}
	o.pays = pennies(o.amount, o.sums)
	for society, sum := range o.sums {
		o.refund[society] = min(sum, o.amount) - o.pays[society]
	}
	return o, true
}

// pennies settles the amount unit by unit: each one is paid by the first society up to which enough was insured for it.
func pennies(amount int, sums []int) []int {
	all := sumOf(sums)
	if all <= amount {
		return slices.Clone(sums)
	}
	pays := make([]int, len(sums))
	for unit := 1; unit <= amount; unit++ {
		society, insured := 0, sums[0]
		for insured*amount < unit*all {
			society++
			insured += sums[society]
		}
		pays[society]++
	}
	return pays
}

func sumOf(l []int) int {
	sum := 0
	for _, n := range l {
		sum += n
	}
	return sum
}

// outcomes are those of all truths that the case has without its claims.
func outcomes(c double.Case) []outcome {
	var list []outcome
	for _, t := range choices(c) {
		if o, ok := outcomeOf(c, t); ok {
			list = append(list, o)
		}
	}
	return list
}

// isRight reports whether all claims of the case are right in the outcome, but for those that are struck.
func (o outcome) isRight(c double.Case, struck ...int) bool {
	for i, x := range c.Claims {
		if !slices.Contains(struck, i) && !has(x.Paid, o.pays[x.Society]) {
			return false
		}
	}
	return true
}

// possible reports whether the case has a truth if some claims are struck.
func possible(c double.Case, list []outcome, struck ...int) bool {
	return slices.ContainsFunc(list, func(o outcome) bool { return o.isRight(c, struck...) })
}

// subsets are all increasing lists of numbers below n, the shorter ones first, those of one length in lexicographic order.
func subsets(n int) [][]int {
	var all [][]int
	for mask := range 1 << n {
		var l []int
		for i := range n {
			if mask>>i&1 == 1 {
				l = append(l, i)
			}
		}
		all = append(all, l)
	}
	slices.SortFunc(all, func(a, b []int) int {
		if len(a) != len(b) {
			return len(a) - len(b)
		}
		return slices.Compare(a, b)
	})
	return all
}

// widen returns the range with the number in it; first says that there was no number before.
func widen(r double.Range, n int, first bool) double.Range {
	if first {
		return at(n)
	}
	return to(min(r.Lo, n), max(r.Hi, n))
}

// answers are what the calls return of a case.
type answers struct {
	bounds       []double.Bound
	total        double.Range
	first        int
	leave        []int
	none         bool // there is no wrong claim
	fails, false bool // without the claims there is no truth; with them there is none
}

// modelOf is what the calls have to return: it tries all choices.
func modelOf(c double.Case) answers {
	all := outcomes(c)
	if len(all) == 0 {
		return answers{fails: true}
	}
	a := answers{first: -1}
	a.addClaims(c, all)
	if a.false {
		return a
	}
	a.bounds = make([]double.Bound, c.Societies)
	first := true
	for _, o := range all {
		if !o.isRight(c) {
			continue
		}
		for k := range a.bounds {
			b := &a.bounds[k]
			b.Pays, b.Refund = widen(b.Pays, o.pays[k], first), widen(b.Refund, o.refund[k], first)
		}
		a.total = widen(a.total, sumOf(o.pays), first)
		first = false
	}
	return a
}

func (a *answers) addClaims(c double.Case, all []outcome) {
	n := len(c.Claims)
	for _, l := range subsets(n) {
		if possible(c, all, l...) {
			a.leave = l
			break
		}
	}
	a.false = len(a.leave) > 0
	for i := n - 1; i >= 0; i-- {
		later := ints()
		for k := i + 1; k < n; k++ {
			later = append(later, k)
		}
		if !possible(c, all, later...) {
			a.first = i
		}
	}
	if a.first < 0 {
		a.first, a.none = 0, true
	}
}

// ask makes all calls but Play and Show. Their errors must agree with each other.
func ask(t *testing.T, c double.Case) answers {
	t.Helper()
	var a answers
	if e := double.CheckCase(c); e != api.OK {
		t.Fatalf("CheckCase of %v: %v", c, e)
	}
	var e, f, g, h api.Errno
	a.bounds, e = double.Bounds(c)
	a.total, f = double.Total(c)
	a.first, g = double.First(c)
	a.leave, h = double.Leave(c)
	switch struct{ e, f, g, h api.Errno }{e, f, g, h} {
	case struct{ e, f, g, h api.Errno }{api.OK, api.OK, api.ErrNone, api.OK}:
		a.none = true
	case struct{ e, f, g, h api.Errno }{api.ErrFalse, api.ErrFalse, api.OK, api.OK}:
		a.false = true
	case struct{ e, f, g, h api.Errno }{api.ErrFail, api.ErrFail, api.ErrFail, api.ErrFail}:
		a.fails = true
	default:
		t.Fatalf("errors of %v: %v, %v, %v, %v", c, e, f, g, h)
	}
	if e != api.OK && len(a.bounds) > 0 || f != api.OK && a.total != at(0) || g != api.OK && a.first != 0 || h != api.OK && len(a.leave) > 0 {
		t.Fatalf("results with errors of %v: %v", c, a)
	}
	return a
}

func has(r double.Range, n int) bool { return n >= r.Lo && n <= r.Hi }

// inside reports whether the first range is a part of the second one.
func inside(a, b double.Range) bool { return a.Lo >= b.Lo && a.Hi <= b.Hi }

// narrower reports whether all bounds of the first answers are inside those of the second ones.
func narrower(a, b answers) bool {
	for k := range a.bounds {
		if !inside(a.bounds[k].Pays, b.bounds[k].Pays) || !inside(a.bounds[k].Refund, b.bounds[k].Refund) {
			return false
		}
	}
	return inside(a.total, b.total)
}

// everything is what all calls return, as a text.
func everything(c double.Case, l double.Truth, n int) string {
	text := fmt.Sprint(double.CheckCase(c))
	pays, amount, e := double.Play(c, l)
	text += fmt.Sprint(pays, amount, e)
	bounds, e := double.Bounds(c)
	text += fmt.Sprint(bounds, e)
	total, e := double.Total(c)
	text += fmt.Sprint(total, e)
	for _, high := range []bool{false, true} {
		for _, society := range ints(0, 1, 2, n) {
			shown, e := double.Show(c, society, high)
			text += fmt.Sprint(shown, e)
		}
	}
	first, e := double.First(c)
	text += fmt.Sprint(first, e)
	leave, e := double.Leave(c)
	return text + fmt.Sprint(leave, e)
}

func someRange(r *rand.Rand, n, wide, last int) double.Range {
	return to(max(0, n-r.IntN(wide+1)), min(last, n+r.IntN(wide+1)))
}

func someDays(r *rand.Rand, n, last int) parcel.Range {
	return parcel.Range(someRange(r, n, r.IntN(3), last))
}

// someBook has entries that mostly fit what happened so far.
func someBook(r *rand.Rand) parcel.Book {
	b := parcel.Book{Last: 3 + r.IntN(4), Owners: 2 + r.IntN(2)}
	var owner []int
	for range 1 + r.IntN(2) {
		p := parcel.Parcel{Owner: r.IntN(b.Owners), Value: 20 + r.IntN(250), Sown: days(0, r.IntN(3)/2)}
		b.Parcels, owner = append(b.Parcels, p), append(owner, p.Owner)
	}
	day := 0
	for range r.IntN(4) {
		day = min(b.Last, day+r.IntN(4))
		n := r.IntN(len(owner))
		e := parcel.Entry{Parcel: n, Day: someDays(r, day, b.Last)}
		switch r.IntN(9) {
		case 0:
			e.Kind = parcel.Harvest
		case 1, 2:
			e.Kind, e.Part = parcel.Split, 1+r.IntN(100)
			owner = append(owner, owner[n])
		default:
			e.From = owner[n]
			e.To = (e.From + 1 + r.IntN(b.Owners-1)) % b.Owners
			if r.IntN(9) > 0 {
				owner[n] = e.To
			}
		}
		b.Entries = append(b.Entries, e)
	}
	return b
}

func parcelsOf(b parcel.Book) int {
	n := len(b.Parcels)
	for _, e := range b.Entries {
		if e.Kind == parcel.Split {
			n++
		}
	}
	return n
}

// someCase mostly has covers of those to whom the parcel can belong.
func someCase(r *rand.Rand) double.Case {
	b := someBook(r)
	c := double.Case{Book: b, Societies: 1 + r.IntN(3), Day: 1 + r.IntN(b.Last), Parcel: r.IntN(parcelsOf(b)), Loss: someRange(r, 20+r.IntN(81), r.IntN(13), 100)}
	owners, _ := parcel.Owners(b, c.Parcel, c.Day)
	for range r.IntN(6) {
		v := double.Cover{Society: r.IntN(c.Societies), Owner: r.IntN(b.Owners), Parcel: c.Parcel, Sum: 10 + r.IntN(120), Until: b.Last, Start: someRange(r, r.IntN(c.Day+1), r.IntN(2), b.Last)}
		if len(owners) > 0 && r.IntN(5) > 0 {
			v.Owner = owners[r.IntN(len(owners))]
		}
		switch r.IntN(20) {
		case 0:
			v.Parcel = r.IntN(parcelsOf(b))
		case 1:
			v.Until = r.IntN(b.Last + 1)
		case 2:
			v.Sum = ints(0, 1, 1000)[r.IntN(3)]
		case 3:
			v.Start = someRange(r, c.Day, 1, b.Last)
		}
		c.Covers = append(c.Covers, v)
	}
	return c
}

// withClaims adds claims of what is paid in one truth, or in one of two, or in any, and a few others.
func withClaims(r *rand.Rand, c double.Case) double.Case {
	all := outcomes(c)
	if len(all) == 0 {
		all = []outcome{{pays: make([]int, c.Societies)}}
	}
	some := func() outcome { return all[r.IntN(len(all))] }
	from := []outcome{some(), some(), some(), some()}[:1+r.IntN(4)]
	wide := ints(0, 0, 1, 2, 12)[r.IntN(5)]
	for range ints(0, 1, 2, 3, 4, 5, 5, 5)[r.IntN(8)] {
		society := r.IntN(c.Societies)
		paid := from[r.IntN(len(from))].pays[society]
		if r.IntN(9) == 0 {
			paid = r.IntN(100)
		}
		c.Claims = append(c.Claims, double.Claim{Society: society, Paid: someRange(r, paid, wide, 1000)})
	}
	return c
}

// cases are some valid cases, made by a fixed rule, with at most 300 choices.
func cases(seed uint64, number int) []double.Case {
	r := rand.New(rand.NewPCG(seed, 8))
	var all []double.Case
	for len(all) < number {
		if c := someCase(r); numberOf(c) <= 300 {
			all = append(all, withClaims(r, c))
		}
	}
	return all
}
