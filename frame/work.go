package frame

import (
	"iter"
	"slices"

	"hailstone/api"
	"hailstone/lists"
)

// hits has the hits of all places. Beyond the places that there are it has 0.
type hits [api.MaxFramePlaces]int

// marks are on some of the counts.
type marks [api.MaxFrameCounts]bool

// spot is a place with its hits.
type spot struct{ place, hits int }

// work is a survey at work. It must be valid.
type work struct {
	Survey
	wrong map[spot]marks // which counts that are not late are wrong, by the hits of their place
}

// question asks for a number of each truth.
type question struct {
	number func(work, hits) int
}

// open finds out which counts are wrong.
func open(s Survey) work {
	w := work{Survey: s, wrong: map[spot]marks{}}
	for i, c := range s.Counts {
		for n := range s.Field.Stems[c.Place] + 1 {
			at := spot{place: c.Place, hits: n}
			wrong := w.wrong[at]
			wrong[i] = !c.Late && !c.Hits.has(n)
			w.wrong[at] = wrong
		}
	}
	return w
}

// hitsOf returns the hits that are listed, and whether the list has those of each place.
func (f Field) hitsOf(list []int) (hits, bool) {
	if len(list) != f.places() {
		return hits{}, false
	}
	var h hits
	for place, n := range list {
		if n < 0 || n > f.Stems[place] {
			return hits{}, false
		}
		h[place] = n
	}
	return h, true
}

// share is the share of the field with these hits.
func (s Survey) share(h hits) int {
	all := sum(s.Field.Stems...)
	if all == 0 {
		return 0
	}
	return sum(h[:]...) * api.MaxFrameHundred / all
}

func sum(numbers ...int) int {
	all := 0
	for _, n := range numbers {
		all += n
	}
	return all
}

// jumps reports whether the hits of the place differ too much from those of a neighbour with a smaller number.
func (s Survey) jumps(h hits, place int) bool {
	left, above := place-1, place-s.Field.Columns
	return place%s.Field.Columns > 0 && s.differ(h[place], h[left]) || above >= 0 && s.differ(h[place], h[above])
}

func (s Survey) differ(n, m int) bool { return max(n-m, m-n) > s.Smooth }

// fits reports whether the hits of the place agree with those of the places before it, and with all counts but those left out.
func (w work) fits(h hits, place int, out marks) bool {
	return !w.jumps(h, place) && w.wrong[spot{place: place, hits: h[place]}].within(out)
}

// within reports whether all counts that are marked are so by the others too.
func (m marks) within(others marks) bool {
	for i := range m {
		if m[i] && !others[i] {
			return false
		}
	}
	return true
}

// isTruth reports whether the hits, which the field can have, are a truth.
func (w work) isTruth(h hits) bool {
	for place := range w.Field.places() {
		if !w.fits(h, place, marks{}) {
			return false
		}
	}
	return true
}

// without yields the hits of all truths of the survey without the counts that are left out.
func (w work) without(out marks) iter.Seq[hits] {
	return func(yield func(hits) bool) {
		var h hits
		var choose func(place int) bool
		choose = func(place int) bool {
			if place == w.Field.places() {
				return yield(h)
			}
			for n := range w.Field.Stems[place] + 1 {
				h[place] = n
				if w.fits(h, place, out) && !choose(place+1) {
					return false
				}
			}
			return true
		}
		choose(0)
	}
}

// truths yields all truths of the survey.
func (w work) truths() iter.Seq[hits] { return w.without(marks{}) }

// span returns the range from the minimum to the maximum of a number in all truths, of which there must be one.
func (w work) span(q question) Range {
	var numbers []int
	for h := range w.truths() {
		numbers = append(numbers, q.number(w, h))
	}
	return Range{Lo: lists.Minimum(numbers...), Hi: slices.Max(numbers)}
}

// canLeave reports whether the counts of the list can be left out.
func (w work) canLeave(list []int) bool {
	var out marks
	for _, i := range list {
		out[i] = true
	}
	for range w.without(out) {
		return true
	}
	return false
}
