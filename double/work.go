package double

import (
	"iter"
	"slices"

	"hailstone/api"
	"hailstone/lists"
	"hailstone/parcel"
)

// work is a case at work. It must be valid.
type work struct {
	Case
	settled map[damage]perSociety // what all societies pay, for each damage that there can be, whatever is claimed
	paid    map[perSociety]bool   // what all societies can pay, whatever is claimed
}

// settleAll settles all damages that there can be.
func settleAll(c Case) work {
	w := work{Case: c, settled: map[damage]perSociety{}, paid: map[perSociety]bool{}}
	for _, d := range w.unclaimed() {
		if _, known := w.settled[d]; !known {
			pays := d.settle()
			w.settled[d], w.paid[pays] = pays, true
		}
	}
	return w
}

// bookRanges returns the ranges Day of all entries, and then the ranges Sown of all parcels.
func (c Case) bookRanges() []lists.Range {
	var ranges []lists.Range
	for _, e := range c.Book.Entries {
		ranges = append(ranges, lists.Range(e.Day))
	}
	for _, p := range c.Book.Parcels {
		ranges = append(ranges, lists.Range(p.Sown))
	}
	return ranges
}

// ownRanges returns the ranges Start of all covers, and then Loss.
func (c Case) ownRanges() []lists.Range {
	var ranges []lists.Range
	for _, v := range c.Covers {
		ranges = append(ranges, lists.Range(v.Start))
	}
	return append(ranges, lists.Range(c.Loss))
}

// endOfDay returns how the parcel is at the end of the day.
func (c Case) endOfDay(t parcel.Truth) (parcel.Holding, api.Errno) {
	all, e := parcel.Play(c.Book, t, c.Day)
	if e != api.OK {
		return parcel.Holding{}, e
	}
	return all[c.Parcel], api.OK
}

// damage returns the damage to a parcel that is so at the end of the day. There must be a day of Start for each cover.
func (c Case) damage(end parcel.Holding, starts []int, loss int) damage {
	d := damage{amount: end.Value * loss / hundred}
	for i, v := range c.Covers {
		if c.holds(v, end, starts[i]) {
			d.sums[v.Society] += v.Sum
		}
	}
	return d
}

// holds reports whether the cover holds if the parcel is so at the end of the day.
func (c Case) holds(v Cover, end parcel.Holding, start int) bool {
	return v.Parcel == c.Parcel && end.Covered && end.Owner == v.Owner && start <= c.Day && c.Day <= v.Until
}

// books yields all truths of the book, each with how the parcel is at the end of the day. The lists of a truth are written over by the next one.
func (c Case) books() iter.Seq2[parcel.Truth, parcel.Holding] {
	return func(yield func(parcel.Truth, parcel.Holding) bool) {
		entries := len(c.Book.Entries)
		for days := range lists.Choices(c.bookRanges()) {
			t := parcel.Truth{Days: days[:entries], Sown: days[entries:]}
			if end, e := c.endOfDay(t); e == api.OK && !yield(t, end) {
				return
			}
		}
	}
}

// unclaimed yields all truths that the case has without its claims, each with its damage. The lists of a truth are written over by the next one.
func (c Case) unclaimed() iter.Seq2[Truth, damage] {
	return func(yield func(Truth, damage) bool) {
		covers := len(c.Covers)
		for book, end := range c.books() {
			for own := range lists.Choices(c.ownRanges()) {
				t := Truth{Book: book, Starts: own[:covers], Loss: own[covers]}
				if !yield(t, c.damage(end, t.Starts, t.Loss)) {
					return
				}
			}
		}
	}
}

// canHold reports whether these claims are right in some truth.
func (w work) canHold(claims []Claim) bool {
	for pays := range w.paid {
		if pays.agree(claims) {
			return true
		}
	}
	return false
}

// question is asked about a society of all settlements.
type question struct {
	ask func(settlement, int) int
}

// bounds returns the range from the minimum to the maximum of the answers in all truths of the case, of which there must be one.
func (w work) bounds(q question, society int) Range {
	var answers []int
	for d, pays := range w.settled {
		if pays.agree(w.Claims) {
			answers = append(answers, q.ask(settlement{damage: d, pays: pays}, society))
		}
	}
	return Range{Lo: lists.Minimum(answers...), Hi: slices.Max(answers)}
}

// witness returns a truth of the case in which the society pays so much.
func (w work) witness(society, pence int) Truth {
	for t, d := range w.unclaimed() {
		if pays := w.settled[d]; pays[society] == pence && pays.agree(w.Claims) {
			return t.own()
		}
	}
	return Truth{}
}
