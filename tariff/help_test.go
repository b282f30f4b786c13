package tariff_test

import (
	"fmt"
	"math/rand/v2"
	"slices"

	"hailstone/tariff"
)

func ints(l ...int) []int { return l }

func to(low, high int) tariff.Range { return tariff.Range{Lo: low, Hi: high} }

func at(n int) tariff.Range { return to(n, n) }

func truth(day, count int) tariff.Truth { return tariff.Truth{Day: day, Count: count} }

// claim is one for the crop 0.
func claim(value int, day, count tariff.Range) tariff.Claim {
	return tariff.Claim{Value: value, Day: day, Count: count}
}

// chapter has the tariffs of the chapter's examples.
func chapter() []tariff.Tariff {
	return []tariff.Tariff{
		{Whole: true, Least: 8, Weeks: ints(0, 10), Counts: ints(0, 50, 100), Rates: [][][]int{{{0, 40, 80}, {0, 25, 100}}}},
		{From: 30, Least: 10, Weeks: ints(0), Counts: ints(0, 100), Rates: [][][]int{{{0, 90}}}},
	}
}

// one is a list with one tariff, of one crop and one week, in which the rates are paid whole.
func one(counts, rates []int) []tariff.Tariff {
	return []tariff.Tariff{{Whole: true, Weeks: ints(0), Counts: counts, Rates: [][][]int{{rates}}}}
}

// straight is a list with one tariff, in which a count is so many hundredths.
func straight() []tariff.Tariff { return one(ints(0, 100), ints(0, 100)) }

// grow makes a tariff with so many weeks, counts and crops, in which all rates are 1.
func grow(weeks, counts, crops int) tariff.Tariff {
	x := tariff.Tariff{Whole: true}
	for i := range weeks {
		x.Weeks = append(x.Weeks, i)
	}
	for i := range counts - 1 {
		x.Counts = append(x.Counts, i)
	}
	x.Counts = append(x.Counts, 100)
	for range crops {
		var crop [][]int
		for range weeks {
			crop = append(crop, slices.Repeat(ints(1), counts))
		}
		x.Rates = append(x.Rates, crop)
	}
	return x
}

// clone copies all lists, with room behind them in which zeros show that nothing was appended.
func clone(l []tariff.Tariff) []tariff.Tariff {
	all := append(make([]tariff.Tariff, 0, len(l)+2), l...)
	for i, x := range l {
		all[i].Weeks = roomy(x.Weeks)
		all[i].Counts = roomy(x.Counts)
		all[i].Rates = nil
		for _, crop := range x.Rates {
			var weeks [][]int
			for _, rates := range crop {
				weeks = append(weeks, roomy(rates))
			}
			all[i].Rates = append(all[i].Rates, weeks)
		}
	}
	return all
}

func roomy(l []int) []int { return append(make([]int, 0, len(l)+2), l...) }

// same reports whether the clone is still the same, and the room behind its lists too.
func same(l, before []tariff.Tariff) bool {
	return fmt.Sprint(l, behind(l)) == fmt.Sprint(before, behind(clone(before)))
}

func behind(l []tariff.Tariff) string {
	text := fmt.Sprint(l[len(l) : len(l)+2])
	for _, x := range l {
		text += fmt.Sprint(x.Weeks[len(x.Weeks):len(x.Weeks)+2], x.Counts[len(x.Counts):len(x.Counts)+2])
		for _, crop := range x.Rates {
			for _, rates := range crop {
				text += fmt.Sprint(rates[len(rates) : len(rates)+2])
			}
		}
	}
	return text
}

// tariffOf is the tariff of the day, and the number of its week.
func tariffOf(l []tariff.Tariff, day int) (tariff.Tariff, int) {
	which := len(l) - 1
	for l[which].From > day {
		which--
	}
	week := len(l[which].Weeks) - 1
	for l[which].Weeks[week] > day {
		week--
	}
	return l[which], week
}

// lossOf is the loss. It is found by trying, so that nothing is divided.
func lossOf(l []tariff.Tariff, crop, day, count int) int {
	x, week := tariffOf(l, day)
	rates := x.Rates[crop][week]
	for i, n := range x.Counts {
		if n == count {
			return rates[i]
		}
	}
	next := 0
	for x.Counts[next] < count {
		next++
	}
	a, b := x.Counts[next-1], x.Counts[next]
	sum := 0
	for n := a; n < b; n++ {
		if n < count {
			sum += rates[next]
		} else {
			sum += rates[next-1]
		}
	}
	loss := 0
	for (loss+1)*(b-a) <= sum {
		loss++
	}
	return loss
}

func partOf(l []tariff.Tariff, crop, day, count int) int {
	x, _ := tariffOf(l, day)
	loss := lossOf(l, crop, day, count)
	switch {
	case loss < x.Least:
		return 0
	case x.Whole:
		return loss
	}
	return loss - x.Least
}

// paymentOf is the payment: each whole hundred pence has as many pence as the part.
func paymentOf(l []tariff.Tariff, c tariff.Claim, t tariff.Truth) int {
	part := partOf(l, c.Crop, t.Day, t.Count)
	hundreds, rest := c.Value/100, c.Value%100
	return hundreds*part + rest*part/100
}

// truths are all truths of the claim, in the order in which Show asks for them.
func truths(c tariff.Claim) []tariff.Truth {
	var all []tariff.Truth
	counts := c.Count.Hi - c.Count.Lo + 1
	for code := range (c.Day.Hi - c.Day.Lo + 1) * counts {
		all = append(all, truth(c.Day.Lo+code/counts, c.Count.Lo+code%counts))
	}
	return all
}

// boundsOf are the bounds, with the first truth that has each end.
func boundsOf(l []tariff.Tariff, c tariff.Claim) (bounds tariff.Range, low, high tariff.Truth) {
	for i, t := range truths(c) {
		n := paymentOf(l, c, t)
		if i == 0 || n < bounds.Lo {
			bounds.Lo, low = n, t
		}
		if i == 0 || n > bounds.Hi {
			bounds.Hi, high = n, t
		}
	}
	return bounds, low, high
}

// paidOf counts the truths in which something is paid.
func paidOf(l []tariff.Tariff, c tariff.Claim) int {
	paid, not := 0, 0
	for _, t := range truths(c) {
		if paymentOf(l, c, t) > 0 {
			paid++
		} else {
			not++
		}
	}
	switch {
	case not == 0:
		return tariff.Always
	case paid == 0:
		return tariff.Never
	}
	return tariff.Perhaps
}

// without are the rates but those with the listed indexes.
func without(rates, list []int) []int {
	var rest []int
	for i, n := range rates {
		if !slices.Contains(list, i) {
			rest = append(rest, n)
		}
	}
	return rest
}

// before reports whether the first list of indexes is to be taken rather than the second one.
func before(a, b []int) bool {
	if len(a) != len(b) {
		return len(a) < len(b)
	}
	return slices.Compare(a, b) < 0
}

// subsets are all increasing lists of numbers below n.
func subsets(n int) [][]int {
	all := [][]int{nil}
	for i := range n {
		for _, l := range all {
			all = append(all, append(slices.Clone(l), i))
		}
	}
	return all
}

func misprintsOf(rates []int) []int {
	var best []int
	found := false
	for _, l := range subsets(len(rates)) {
		if slices.IsSorted(without(rates, l)) && (!found || before(l, best)) {
			best, found = l, true
		}
	}
	return best
}

// rising is a list of so many numbers, which rises from 0 to at most the last one.
func rising(r *rand.Rand, size, last int) []int {
	l := ints(0)
	for len(l) < size {
		if n := 1 + r.IntN(last); !slices.Contains(l, n) {
			l = append(l, n)
		}
	}
	slices.Sort(l)
	return l
}

// someRates rise, or some of them do not.
func someRates(r *rand.Rand, size int) []int {
	var l []int
	for range size {
		l = append(l, min(100, r.IntN(120)))
	}
	if r.IntN(2) > 0 {
		l[0] = 0
	}
	if r.IntN(3) > 0 {
		slices.Sort(l)
	}
	if r.IntN(3) == 0 {
		l[r.IntN(size)] = r.IntN(101)
	}
	return l
}

func someTariff(r *rand.Rand, from, crops int) tariff.Tariff {
	x := tariff.Tariff{From: from, Whole: r.IntN(2) == 0, Least: ints(0, 1, 5, 8, 15, 30, 100)[r.IntN(7)]}
	x.Weeks = rising(r, 1+r.IntN(4), 60)
	x.Counts = append(rising(r, 1+r.IntN(4), 99), 100)
	for range crops {
		var crop [][]int
		for range x.Weeks {
			crop = append(crop, someRates(r, len(x.Counts)))
		}
		x.Rates = append(x.Rates, crop)
	}
	return x
}

// lists are lists of tariffs, made by a fixed rule.
func lists(seed uint64, number int) [][]tariff.Tariff {
	r := rand.New(rand.NewPCG(seed, 5))
	var all [][]tariff.Tariff
	for range number {
		var l []tariff.Tariff
		crops := 1 + r.IntN(3)
		for _, from := range rising(r, 1+r.IntN(3), 50) {
			l = append(l, someTariff(r, from, crops))
		}
		all = append(all, l)
	}
	return all
}

func someRange(r *rand.Rand, last, wide int) tariff.Range {
	low := r.IntN(last + 1)
	return to(low, min(last, low+r.IntN(wide+1)))
}

// someClaim is for some crop of the tariffs, mostly on days on which something changes.
func someClaim(r *rand.Rand, l []tariff.Tariff) tariff.Claim {
	c := tariff.Claim{Crop: r.IntN(len(l[0].Rates)), Value: r.IntN(2000), Day: someRange(r, 70, 10), Count: someRange(r, 100, 12)}
	switch r.IntN(8) {
	case 0:
		c.Value = ints(0, 1, 2, 99, 100, 101, 99999, 100000)[r.IntN(8)]
	case 1:
		c.Day = someRange(r, 120, 10)
	case 2, 3, 4:
		c.Count = someRange(r, 100, 100)
	}
	return c
}

// claims are some claims for each of the lists.
func claims(seed uint64, l []tariff.Tariff, number int) []tariff.Claim {
	r := rand.New(rand.NewPCG(seed, 6))
	var all []tariff.Claim
	for range number {
		all = append(all, someClaim(r, l))
	}
	return all
}

// inside reports whether the first range is a part of the second one.
func inside(a, b tariff.Range) bool { return a.Lo >= b.Lo && a.Hi <= b.Hi }

func has(r tariff.Range, n int) bool { return n >= r.Lo && n <= r.Hi }

// everything is what all calls return of the tariffs and a claim, as a text.
func everything(l []tariff.Tariff, c tariff.Claim, n int) string {
	part, e := tariff.Part(l, c.Crop, c.Day.Lo, n)
	text := fmt.Sprint(tariff.CheckTariffs(l), part, e)
	t := truth(c.Day.Lo, n)
	pence, e := tariff.Pay(l, c, t)
	text += fmt.Sprint(pence, e, tariff.ProvePay(l, c, t, pence))
	bounds, e := tariff.Bounds(l, c)
	text += fmt.Sprint(bounds, e)
	for _, high := range []bool{false, true} {
		shown, e := tariff.Show(l, c, high)
		text += fmt.Sprint(shown, e)
	}
	paid, e := tariff.Paid(l, c)
	text += fmt.Sprint(paid, e)
	least, e := tariff.Least(l, c.Crop, n)
	text += fmt.Sprint(least, e)
	total, e := tariff.Total(l, []tariff.Claim{c, c})
	text += fmt.Sprint(total, e)
	for which := range 3 {
		list, e := tariff.Misprints(l, which, c.Crop, n%4)
		text += fmt.Sprint(list, e)
	}
	return text
}
