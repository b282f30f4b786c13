package umpire_test

import (
	"fmt"
	"iter"
	"math/rand/v2"
	"slices"
	"testing"

	"hailstone/api"
	"hailstone/tariff"
	"hailstone/umpire"
)

func ints(l ...int) []int { return l }

func to(low, high int) umpire.Range { return umpire.Range{Lo: low, Hi: high} }

func at(n int) umpire.Range { return to(n, n) }

func three(first, second, third int) umpire.Three {
	return umpire.Three{First: first, Second: second, Umpire: third}
}

func threes(l ...umpire.Three) []umpire.Three { return l }

// field is one of the crop 0.
func field(value, near int, first, second, third umpire.Range) umpire.Field {
	return umpire.Field{Value: value, Near: near, First: first, Second: second, Umpire: third}
}

// one is a list with one tariff, of one crop and one week, in which the rates are paid whole.
func one(counts, rates []int) []tariff.Tariff {
	return []tariff.Tariff{{Whole: true, Weeks: ints(0), Counts: counts, Rates: [][][]int{{rates}}}}
}

// straight is a list with one tariff, in which a count is so many hundredths.
func straight() []tariff.Tariff { return one(ints(0, 100), ints(0, 100)) }

// of is a case of some fields, in which a count is so many hundredths.
func of(fee int, fields ...umpire.Field) umpire.Case {
	return umpire.Case{Tariffs: straight(), Day: 10, Fee: fee, Fields: fields}
}

// chapter is the case of the chapter's examples.
func chapter() umpire.Case {
	return of(31, field(1000, 4, to(40, 41), at(30), to(33, 36)), field(200, 4, at(20), to(17, 18), to(0, 4)))
}

// known is a case in which all counts are so.
func known(fee int, l ...umpire.Three) umpire.Case {
	c := of(fee)
	for _, t := range l {
		c.Fields = append(c.Fields, field(1000, 4, at(t.First), at(t.Second), at(t.Umpire)))
	}
	return c
}

func roomy(l []int) []int { return append(make([]int, 0, len(l)+2), l...) }

// clone copies all lists, with room behind them in which zeros show that nothing was appended.
func clone(c umpire.Case) umpire.Case {
	c.Fields = append(make([]umpire.Field, 0, len(c.Fields)+2), c.Fields...)
	l := append(make([]tariff.Tariff, 0, len(c.Tariffs)+2), c.Tariffs...)
	for i, x := range l {
		l[i].Weeks, l[i].Counts, l[i].Rates = roomy(x.Weeks), roomy(x.Counts), nil
		for _, crop := range x.Rates {
			var weeks [][]int
			for _, rates := range crop {
				weeks = append(weeks, roomy(rates))
			}
			l[i].Rates = append(l[i].Rates, weeks)
		}
	}
	c.Tariffs = l
	return c
}

// same reports whether the clone is still the same, and the room behind its lists too.
func same(c, before umpire.Case) bool {
	return fmt.Sprint(c, behind(c)) == fmt.Sprint(before, behind(clone(before)))
}

func behind(c umpire.Case) string {
	text := fmt.Sprint(c.Fields[len(c.Fields):len(c.Fields)+2], c.Tariffs[len(c.Tariffs):len(c.Tariffs)+2])
	for _, x := range c.Tariffs {
		text += fmt.Sprint(x.Weeks[len(x.Weeks):len(x.Weeks)+2], x.Counts[len(x.Counts):len(x.Counts)+2])
		for _, crop := range x.Rates {
			for _, rates := range crop {
				text += fmt.Sprint(rates[len(rates) : len(rates)+2])
			}
		}
	}
	return text
}

// told are all counts that the three can say about a field.
func told(f umpire.Field) []umpire.Three {
	var all []umpire.Three
	seconds, thirds := f.Second.Hi-f.Second.Lo+1, f.Umpire.Hi-f.Umpire.Lo+1
	for code := range (f.First.Hi - f.First.Lo + 1) * seconds * thirds {
		all = append(all, three(f.First.Lo+code/thirds/seconds, f.Second.Lo+code/thirds%seconds, f.Umpire.Lo+code%thirds))
	}
	return all
}

// truths yields all truths of the case. A list is written over by the next one.
func truths(c umpire.Case) iter.Seq[[]umpire.Three] {
	return func(yield func([]umpire.Three) bool) {
		number := 1
		var all [][]umpire.Three
		for _, f := range c.Fields {
			all = append(all, told(f))
			number *= len(told(f))
		}
		t := make([]umpire.Three, len(all))
		for code := range number {
			for i, l := range all {
				t[i] = l[code%len(l)]
				code /= len(l)
			}
			if !yield(t) {
				return
			}
		}
	}
}

// numberOf is how many truths the case has.
func numberOf(c umpire.Case) int {
	number := 1
	for _, f := range c.Fields {
		number *= len(told(f))
	}
	return number
}

func calledFor(f umpire.Field, t umpire.Three) bool {
	return t.First > t.Second+f.Near || t.Second > t.First+f.Near
}

// settledOf is the middle one of the three counts, if the umpire is called; otherwise there are as many counts below it as above it, or one less.
func settledOf(f umpire.Field, t umpire.Three) int {
	if calledFor(f, t) {
		l := ints(t.First, t.Second, t.Umpire)
		slices.Sort(l)
		return l[1]
	}
	low, high := min(t.First, t.Second), max(t.First, t.Second)
	for high-low > 1 {
		low, high = low+1, high-1
	}
	return low
}

// lead is 1 if the farmer loses the field, -1 if the society does, and 0 otherwise.
func lead(f umpire.Field, t umpire.Three) int {
	n := settledOf(f, t)
	first, second := (t.First-n)*(t.First-n), (t.Second-n)*(t.Second-n)
	switch {
	case calledFor(f, t) && first > second:
		return 1
	case calledFor(f, t) && first < second:
		return -1
	}
	return 0
}

// pays are what is paid for each count of each field.
type pays [][]int

func paysOf(c umpire.Case) pays {
	var all pays
	for _, f := range c.Fields {
		var list []int
		for n := range 101 {
			list = append(list, payOf(c, f, n))
		}
		all = append(all, list)
	}
	return all
}

// payOf asks the tariffs.
func payOf(c umpire.Case, f umpire.Field, n int) int {
	claim := tariff.Claim{Crop: f.Crop, Value: f.Value, Day: tariff.Range{Lo: c.Day, Hi: c.Day}, Count: tariff.Range{Hi: 100}}
	pence, e := tariff.Pay(c.Tariffs, claim, tariff.Truth{Day: c.Day, Count: n})
	if e != api.OK {
		panic(e)
	}
	return pence
}

// resultOf is what is played, but for the list of counts.
func resultOf(c umpire.Case, p pays, t []umpire.Three) umpire.Result {
	var r umpire.Result
	ahead, called := 0, false
	for i, f := range c.Fields {
		r.Award += p[i][settledOf(f, t[i])]
		ahead += lead(f, t[i])
		called = called || calledFor(f, t[i])
	}
	switch {
	case !called:
	case ahead > 0:
		r.Farmer = c.Fee
	case ahead < 0:
		r.Society = c.Fee
	default:
		r.Society = c.Fee / 2
		r.Farmer = r.Society + c.Fee%2
	}
	return r
}

func settledCounts(c umpire.Case, t []umpire.Three) []int {
	var list []int
	for i, f := range c.Fields {
		list = append(list, settledOf(f, t[i]))
	}
	return list
}

// bounds widens a range with each number.
type bounds struct {
	umpire.Range
	some bool
}

func (b *bounds) add(n int) {
	if !b.some || n < b.Lo {
		b.Lo = n
	}
	if !b.some || n > b.Hi {
		b.Hi = n
	}
	b.some = true
}

// model is what the calls have to return of a case.
type model struct {
	award, farmer, society, net, cost bounds
	counts                            [][]int
	called, matters                   []int
}

// modelOf tries all truths.
func modelOf(c umpire.Case) model {
	var m model
	p := paysOf(c)
	for t := range truths(c) {
		r := resultOf(c, p, t)
		m.award.add(r.Award)
		m.farmer.add(r.Farmer)
		m.society.add(r.Society)
		m.net.add(r.Award - r.Farmer)
		m.cost.add(r.Award + r.Society)
	}
	for i, f := range c.Fields {
		m.addField(i, f, p[i])
	}
	return m
}

func (m *model) addField(i int, f umpire.Field, pay []int) {
	var counts []int
	var paid [101][101]bounds // by the counts of both adjusters
	called, not, matters := 0, 0, false
	for _, t := range told(f) {
		counts = append(counts, settledOf(f, t))
		b := &paid[t.First][t.Second]
		b.add(pay[settledOf(f, t)])
		matters = matters || b.Lo < b.Hi
		if calledFor(f, t) {
			called++
		} else {
			not++
		}
	}
	slices.Sort(counts)
	m.counts = append(m.counts, slices.Compact(counts))
	if matters {
		m.matters = append(m.matters, i)
	}
	switch {
	case not == 0:
		m.called = append(m.called, umpire.Always)
	case called == 0:
		m.called = append(m.called, umpire.Never)
	default:
		m.called = append(m.called, umpire.Perhaps)
	}
}

func (m model) offers() umpire.Range { return to(m.net.Lo, m.cost.Hi) }

func someRange(r *rand.Rand, low, high, wide int) umpire.Range {
	n := max(0, min(100, low+r.IntN(high-low+1)))
	return to(n, min(100, n+r.IntN(wide+1)))
}

// someField has counts that are near each other, or not; then the umpire's one is mostly between both.
func someField(r *rand.Rand, crops, wide int) umpire.Field {
	f := umpire.Field{Crop: r.IntN(crops), Value: r.IntN(2000), Near: r.IntN(9)}
	middle := r.IntN(101)
	apart := 1 + r.IntN(8)
	f.First = someRange(r, middle-apart, middle+apart, wide)
	f.Second = someRange(r, middle-apart, middle+apart, wide)
	f.Umpire = someRange(r, middle-apart, middle+apart, wide)
	if r.IntN(2) == 0 {
		f.First, f.Second = someRange(r, middle-apart, middle-apart, wide), someRange(r, middle+apart, middle+apart, wide)
	}
	if r.IntN(2) == 0 {
		f.First, f.Second = f.Second, f.First
	}
	switch r.IntN(10) {
	case 0:
		f.Value = ints(0, 1, 30, 99, 100, 101, 99999, 100000)[r.IntN(8)]
	case 1:
		f.Near = ints(0, 20, 99, 100)[r.IntN(4)]
	case 2:
		f.Umpire = someRange(r, 0, 100, wide)
	case 3:
		f.Second = f.First
	}
	return f
}

// someTariffs are one tariff, or two of them, with rates that mostly rise.
func someTariffs(r *rand.Rand, crops int) []tariff.Tariff {
	var l []tariff.Tariff
	for n := range 1 + r.IntN(2) {
		x := tariff.Tariff{From: 30 * n, Whole: r.IntN(2) == 0, Least: ints(0, 0, 0, 5, 15, 30)[r.IntN(6)]}
		x.Weeks, x.Counts = ints(0, 50), ints(0, 20+r.IntN(20), 50+r.IntN(20), 100)
		for range crops {
			x.Rates = append(x.Rates, [][]int{someRates(r), someRates(r)})
		}
		l = append(l, x)
	}
	return l
}

func someRates(r *rand.Rand) []int {
	l := ints(0, r.IntN(101), r.IntN(101), r.IntN(101))
	if r.IntN(3) > 0 {
		slices.Sort(l)
	}
	return l
}

// cases are some cases, made by a fixed rule, with at most 2000 truths.
func cases(seed uint64, number int) []umpire.Case {
	r := rand.New(rand.NewPCG(seed, 7))
	var all []umpire.Case
	for len(all) < number {
		crops := 1 + r.IntN(2)
		c := umpire.Case{Tariffs: someTariffs(r, crops), Day: r.IntN(80), Fee: r.IntN(400)}
		if r.IntN(6) == 0 {
			c.Fee = ints(0, 1, 2, 9999, 10000)[r.IntN(5)]
		}
		number := r.IntN(8) / 2
		for range number {
			c.Fields = append(c.Fields, someField(r, crops, 5-number))
		}
		if numberOf(c) <= 2000 {
			all = append(all, c)
		}
	}
	return all
}

// inside reports whether the first range is a part of the second one.
func inside(a, b umpire.Range) bool { return a.Lo >= b.Lo && a.Hi <= b.Hi }

func has(r umpire.Range, n int) bool { return n >= r.Lo && n <= r.Hi }

// fees are what Fees returns.
type fees struct{ farmer, society umpire.Range }

// answers are what the calls return of a valid case.
type answers struct {
	award, offers umpire.Range
	fees          fees
	counts        [][]int
	called        []int
	matters       []int
}

// ask makes all calls but Play and ProveAward, which must not fail.
func ask(t *testing.T, c umpire.Case) answers {
	t.Helper()
	var a answers
	var errors []api.Errno
	add := func(e api.Errno) { errors = append(errors, e) }
	var e api.Errno
	add(umpire.CheckCase(c))
	a.award, e = umpire.Award(c)
	add(e)
	a.offers, e = umpire.Offers(c)
	add(e)
	a.fees.farmer, a.fees.society, e = umpire.Fees(c)
	add(e)
	a.matters, e = umpire.Matters(c)
	add(e)
	for i := range c.Fields {
		l, e := umpire.Counts(c, i)
		add(e)
		a.counts = append(a.counts, l)
		n, e := umpire.Called(c, i)
		add(e)
		a.called = append(a.called, n)
	}
	for _, e := range errors {
		if e != api.OK {
			t.Fatalf("errors of %v: %v", c, errors)
		}
	}
	return a
}

// playOf plays a truth, which there must be.
func playOf(t *testing.T, c umpire.Case, l []umpire.Three) umpire.Result {
	t.Helper()
	r, e := umpire.Play(c, l)
	if e != api.OK {
		t.Fatalf("Play of %v, %v: %v", c, l, e)
	}
	return r
}

// everything is what all calls return, as a text.
func everything(c umpire.Case, l []umpire.Three, n int) string {
	text := fmt.Sprint(umpire.CheckCase(c))
	r, e := umpire.Play(c, l)
	text += fmt.Sprint(len(r.Counts), r, e, umpire.ProveAward(c, l, r.Award), umpire.ProveAward(c, l, n))
	award, e := umpire.Award(c)
	text += fmt.Sprint(award, e)
	farmer, society, e := umpire.Fees(c)
	text += fmt.Sprint(farmer, society, e)
	offers, e := umpire.Offers(c)
	text += fmt.Sprint(offers, e)
	matters, e := umpire.Matters(c)
	text += fmt.Sprint(matters, e)
	for _, i := range ints(0, 1, 2, n) {
		counts, e := umpire.Counts(c, i)
		called, f := umpire.Called(c, i)
		text += fmt.Sprint(counts, e, called, f)
	}
	return text
}
