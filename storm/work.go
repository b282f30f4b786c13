package storm

import (
	"iter"
	"slices"

	"hailstone/api"
	"hailstone/lists"
)

// cards says something of each card. Beyond the cards that there are it says no.
type cards [api.MaxStormCards]bool

// work is a storm at work. It must not have more cards than MaxStormCards.
type work struct {
	Storm
	right map[Truth]cards // which cards are right, for each choice
}

// open finds out which cards are right.
func open(s Storm) work {
	w := work{Storm: s, right: map[Truth]cards{}}
	for t := range w.choices() {
		w.right[t] = w.rightCards(t)
	}
	return w
}

func (w work) rightCards(t Truth) cards {
	var right cards
	for i, c := range w.Cards {
		right[i] = w.isRight(c, t)
	}
	return right
}

func (w work) allCards() cards { return upTo(len(w.Cards) - 1) }

// choices yields every choice of one number of each range, whether the cards are right in it or not.
func (s Storm) choices() iter.Seq[Truth] {
	return func(yield func(Truth) bool) {
		for a := range s.A.numbers() {
			for b := range s.B.numbers() {
				for half := range s.Half.numbers() {
					for peak := range s.Peak.numbers() {
						if !yield(Truth{A: a, B: b, Half: half, Peak: peak}) {
							return
						}
					}
				}
			}
		}
	}
}

// truths yields all truths of the storm.
func (w work) truths() iter.Seq[Truth] {
	return func(yield func(Truth) bool) {
		all := w.allCards()
		for t := range w.choices() {
			if w.right[t] == all && !yield(t) {
				return
			}
		}
	}
}

func (w work) hasTruth() bool { return w.canHold(w.allCards()) }

// span returns the range from the minimum to the maximum of a number in all truths, of which there must be one.
func (w work) span(number func(Truth) int) Range {
	var numbers []int
	for t := range w.truths() {
		numbers = append(numbers, number(t))
	}
	return Range{Lo: lists.Minimum(numbers...), Hi: slices.Max(numbers)}
}

// witness returns a truth in which some place of the rectangle is in the path, or, if in is false, is not in it.
func (w work) witness(r Rect, in bool) (Truth, bool) {
	for t := range w.truths() {
		if w.reaches(t, r, in) {
			return t, true
		}
	}
	return Truth{}, false
}

// tally returns in how many truths each place is in the path, and how many truths there are.
func (w work) tally() (hits [api.MaxStormWide][api.MaxStormHigh]int, all int) {
	for t := range w.truths() {
		all++
		for x, y := range w.grid().places() {
			if w.hits(t, x, y) {
				hits[x][y]++
			}
		}
	}
	return hits, all
}

// canHold reports whether all of these cards are right in some choice.
func (w work) canHold(these cards) bool {
	for t := range w.choices() {
		if w.right[t].among(these) == these {
			return true
		}
	}
	return false
}

// among returns which of these cards are marked.
func (c cards) among(these cards) cards {
	for i := range these {
		these[i] = these[i] && c[i]
	}
	return these
}

// upTo marks the cards from 0 to the last one.
func upTo(last int) cards {
	var marked cards
	for i := range last + 1 {
		marked[i] = true
	}
	return marked
}

// clash reports whether the cards of the list clash.
func (w work) clash(list []int) bool {
	var listed cards
	for _, i := range list {
		listed[i] = true
	}
	return !w.canHold(listed)
}

// canLeave reports whether the cards of the list can be left out.
func (w work) canLeave(list []int) bool {
	rest := w.allCards()
	for _, i := range list {
		rest[i] = false
	}
	return w.canHold(rest)
}

// quest says what a list of cards must be.
type quest struct {
	must func(work, []int) bool
}

// shortest returns the shortest list that is as it must be; of several ones, the one that is lexicographically first.
func (w work) shortest(q quest) []int {
	return lists.Shortest(len(w.Cards), func(list []int) bool { return q.must(w, list) })
}
