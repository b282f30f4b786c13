package growth

import (
	"iter"
	"slices"

	"hailstone/lists"
)

// work is a season at work. It must be valid.
type work struct {
	Season
	damages map[plant]damages // of all choices; as what is old does not matter, Old is 0 in each key
}

// question asks for a number of each truth.
type question struct {
	number func(course) int
}

// open finds out how the damage of each choice grows out.
func open(s Season) work {
	w := work{Season: s, damages: map[plant]damages{}}
	for _, f := range s.Fields {
		for week := range f.Week.numbers() {
			for damage := range f.Damage.numbers() {
				p := f.plant(week, damage)
				w.damages[p] = s.grow(p)
			}
		}
	}
	return w
}

func (f Field) plant(week, damage int) plant {
	return plant{Truth: Truth{Week: week, Damage: damage}, crop: f.Crop}
}

func (r Range) numbers() iter.Seq[int] {
	return func(yield func(int) bool) {
		for n := range r.count() {
			if !yield(r.Lo + n) {
				return
			}
		}
	}
}

// choices yields every choice of one number of each range of the field, whether the visits are right in it or not.
func (w work) choices(f Field) iter.Seq[course] {
	return func(yield func(course) bool) {
		for week := range f.Week.numbers() {
			for damage := range f.Damage.numbers() {
				grown := w.damages[f.plant(week, damage)]
				for old := range f.Old.numbers() {
					if !yield(course{Truth: Truth{Week: week, Damage: damage, Old: old}, damages: grown}) {
						return
					}
				}
			}
		}
	}
}

// truths yields all truths of the season for the field.
func (w work) truths(field int) iter.Seq[course] {
	return func(yield func(course) bool) {
		for c := range w.choices(w.Fields[field]) {
			if w.allows(field, c) && !yield(c) {
				return
			}
		}
	}
}

// allows reports whether all visits of the field are right.
func (s Season) allows(field int, c course) bool {
	return lists.Each(s.Visits, func(v Visit) bool { return v.Field != field || v.Seen.has(c.seen(v.Week)) })
}

func (w work) hasTruth() bool {
	for field := range w.Fields {
		if !w.hasTruthOf(field) {
			return false
		}
	}
	return true
}

func (w work) hasTruthOf(field int) bool {
	for range w.truths(field) {
		return true
	}
	return false
}

// with is the season with these visits instead of its own.
func (w work) with(visits []Visit) work {
	w.Visits = visits
	return w
}

// canLeave reports whether the visits of the list can be left out.
func (w work) canLeave(list []int) bool {
	return w.with(lists.Without(w.Visits, list)).hasTruth()
}

// span returns the range from the minimum to the maximum of a number in all truths of the field, of which there must be one.
func (w work) span(field int, q question) Range {
	var numbers []int
	for c := range w.truths(field) {
		numbers = append(numbers, q.number(c))
	}
	return Range{Lo: lists.Minimum(numbers...), Hi: slices.Max(numbers)}
}

func (w work) bound(field int) Bound {
	return Bound{
		Week:    w.span(field, question{number: course.week}),
		Damage:  w.span(field, question{number: course.damage}),
		Old:     w.span(field, question{number: course.old}),
		Harvest: w.span(field, question{number: course.harvest}),
	}
}

// outcomes lists the damages of all truths of the field, those of several truths once.
func (w work) outcomes(field int) []damages {
	var all []damages
	known := map[damages]bool{}
	for c := range w.truths(field) {
		if !known[c.damages] {
			all = append(all, c.damages)
		}
		known[c.damages] = true
	}
	return all
}
