package zone

import (
	"iter"

	"hailstone/lists"
)

// hundred is how many times the losses are compared with so many times the premiums as Good and Bad say.
const hundred = 100

// The kinds of a year.
const (
	passedOver = iota // it does not count
	good
	bad
	neither
	numberOfKinds
)

// kind is what the years of a kind do: they lead from the state before them to the one after them.
type kind struct {
	lead func(r Rule, from state) state
}

func allKinds() [numberOfKinds]kind {
	return [numberOfKinds]kind{
		passedOver: {Rule.stay},
		good:       {Rule.lower},
		bad:        {Rule.raise},
		neither:    {Rule.pause},
	}
}

func (r Rule) stay(from state) state { return from }

func (r Rule) raise(from state) state { return state{class: min(from.class+1, r.Classes-1)} }

func (r Rule) pause(from state) state {
	return state{class: from.class, since: min(from.since+1, r.Rest)}
}

// lower does what a good year does. If the zone has not rested, this is no more than what one does that is neither good nor bad.
func (r Rule) lower(from state) state {
	after := r.pause(from)
	if from.since == r.Rest {
		after.class = max(0, from.class-1)
	}
	return after
}

func (r Rule) counts(y Year) bool { return !y.Exempt && y.Parcels >= r.Fewest }

// kindOf returns the kind of the year with these losses and premiums.
func (r Rule) kindOf(y Year, losses, premiums int) int {
	switch {
	case !r.counts(y):
		return passedOver
	case losses*hundred < premiums*r.Good:
		return good
	case losses*hundred > premiums*r.Bad:
		return bad
	}
	return neither
}

// possible says of each kind whether a year can be of it.
type possible [numberOfKinds]bool

// within returns the kinds that the year can be within its ranges.
func (r Rule) within(y Year) possible {
	var p possible
	for truth := range lists.Choices([]lists.Range{lists.Range(y.Losses), lists.Range(y.Premiums)}) {
		p[r.kindOf(y, truth[0], truth[1])] = true
	}
	return p
}

// anyKind has the kinds that a year can be that counts, whatever its ranges say.
func anyKind() possible { return possible{good: true, bad: true, neither: true} }

// all yields the kinds that are possible.
func (p possible) all() iter.Seq[int] {
	return func(yield func(int) bool) {
		for kind, is := range p {
			if is && !yield(kind) {
				return
			}
		}
	}
}
