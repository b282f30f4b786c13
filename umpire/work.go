package umpire

import (
	"iter"
	"slices"

	"hailstone/api"
	"hailstone/lists"
	"hailstone/tariff"
)

// work has a case at work. It must be valid.
type work struct {
	Case
	payments map[tariff.Claim]int // those that were asked for so far
}

func open(c Case) (work, api.Errno) {
	if e := CheckCase(c); e != api.OK {
		return work{}, e
	}
	return work{Case: c, payments: map[tariff.Claim]int{}}, api.OK
}

func openField(c Case, field int) (Field, api.Errno) {
	if e := CheckCase(c); e != api.OK {
		return Field{}, e
	}
	if !c.hasField(field) {
		return Field{}, api.ErrRange
	}
	return c.Fields[field], api.OK
}

func (w work) play(t []Three) Result {
	var r Result
	v := verdict{fee: w.Fee}
	for i, f := range w.Fields {
		r.Counts = append(r.Counts, f.settled(t[i]))
		v = v.with(w.outcome(f, t[i]))
	}
	r.Award, r.Farmer, r.Society = v.award(), v.farmer(), v.society()
	return r
}

// outcome is what can come of a field, as far as the award and the fee depend on it.
type outcome struct {
	pence int
	loser side
}

func (w work) outcome(f Field, t Three) outcome {
	return outcome{pence: w.payment(f, f.settled(t)), loser: f.loser(t)}
}

func (w work) outcomes(f Field) map[outcome]bool {
	all := map[outcome]bool{}
	for t := range f.threes() {
		all[w.outcome(f, t)] = true
	}
	return all
}

func (w work) payment(f Field, count int) int {
	c := w.claim(f, count)
	if pence, known := w.payments[c]; known {
		return pence
	}
	pence, _ := tariff.Pay(w.Tariffs, c, tariff.Truth{Day: w.Day, Count: count}) // a valid case has no other claims than valid ones
	w.payments[c] = pence
	return pence
}

// verdicts yields what can come of all fields together, in any order.
func (w work) verdicts() iter.Seq[verdict] {
	return func(yield func(verdict) bool) {
		var all []map[outcome]bool
		for _, f := range w.Fields {
			all = append(all, w.outcomes(f))
		}
		var choose func(field int, v verdict) bool
		choose = func(field int, v verdict) bool {
			if field == len(all) {
				return yield(v)
			}
			for o := range all[field] {
				if !choose(field+1, v.with(o)) {
					return false
				}
			}
			return true
		}
		choose(0, verdict{fee: w.Fee})
	}
}

// question is asked of all verdicts.
type question struct {
	ask func(verdict) int
}

// bounds returns the range from the minimum to the maximum of what all verdicts answer.
func (w work) bounds(q question) Range {
	var answers []int
	for v := range w.verdicts() {
		answers = append(answers, q.ask(v))
	}
	return Range{Lo: lists.Minimum(answers...), Hi: slices.Max(answers)}
}

func (w work) matters() []int {
	var found []int
fields:
	for i, f := range w.Fields {
		for t := range f.threes() {
			if w.matter(f, t) {
				found = append(found, i)
				continue fields
			}
		}
	}
	return found
}

// matter reports whether another count of the umpire would lead to another payment. The other fields pay the same then.
func (w work) matter(f Field, t Three) bool {
	pence := w.payment(f, f.settled(t))
	f.First, f.Second = Range{Lo: t.First, Hi: t.First}, Range{Lo: t.Second, Hi: t.Second}
	could := f.counts()
	return w.paying(f, could, pence) != could
}

// paying flags those of the counts for which so many pence are paid.
func (w work) paying(f Field, could counts, pence int) counts {
	for _, n := range could.list() {
		could[n] = w.payment(f, n) == pence
	}
	return could
}
