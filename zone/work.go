package zone

import (
	"slices"

	"hailstone/api"
	"hailstone/lists"
)

// state is a class, and how many years that count there were since the last bad one; the Rest stands for all greater numbers, and for no bad year at all.
type state struct{ class, since int }

// states has the states that are possible.
type states map[state]bool

// classes says of each class whether it is possible.
type classes [api.MaxZoneClasses]bool

func only(class int) classes {
	var c classes
	c[class] = true
	return c
}

func (s states) classes() classes {
	var c classes
	for one := range s {
		c[one.class] = true
	}
	return c
}

func (c classes) list() []int {
	var list []int
	for class := range len(c) {
		if c[class] {
			list = append(list, class)
		}
	}
	return list
}

// work is a zone at work, by its rule. Both must be valid.
type work struct {
	Rule
	zone  Zone
	kinds [numberOfKinds]kind
	can   []possible // the kinds that each year can be
}

func open(r Rule, z Zone) (work, api.Errno) {
	if e := CheckZone(r, z); e != api.OK {
		return work{}, e
	}
	w := work{Rule: r, zone: z, kinds: allKinds()}
	for _, y := range z.Years {
		w.can = append(w.can, r.within(y))
	}
	return w, api.OK
}

// openAt opens a zone that must have the year.
func openAt(r Rule, z Zone, year int) (work, api.Errno) {
	w, e := open(r, z)
	if e == api.OK && !z.has(year) {
		return work{}, api.ErrRange
	}
	return w, e
}

// first is the state before all years: none of them was bad.
func (w work) first() state { return state{class: w.zone.First, since: w.Rest} }

// play returns the class after each year in the truth.
func (w work) play(t Truth) []int {
	var all []int
	now := w.first()
	for n, y := range w.zone.Years {
		kind := w.kindOf(y, t.Losses[n], t.Premiums[n])
		now = w.kinds[kind].lead(w.Rule, now)
		all = append(all, now.class)
	}
	return all
}

// after returns the states that are possible after so many years.
func (w work) after(years int) states {
	now := states{w.first(): true}
	for year := range years {
		now = w.follow(now, year)
	}
	return now
}

// follow returns the states that are possible after the year, if these are possible before it.
func (w work) follow(before states, year int) states {
	after := states{}
	for from := range before {
		for kind := range w.can[year].all() {
			after[w.kinds[kind].lead(w.Rule, from)] = true
		}
	}
	return after
}

// moves returns whether the year moves the zone.
func (w work) moves(year int) int {
	canMove, canStay := false, false
	for from := range w.after(year) {
		classes := w.follow(states{from: true}, year).classes()
		canMove = canMove || classes != only(from.class)
		canStay = canStay || classes[from.class]
	}
	switch {
	case !canStay:
		return Always
	case !canMove:
		return Never
	}
	return Perhaps
}

// last returns the classes that are possible after all years.
func (w work) last() classes { return w.after(len(w.can)).classes() }

// prices returns those that are possible after all years.
func (w work) prices() []int {
	var all []int
	for _, class := range w.last().list() {
		all = append(all, w.Price[class])
	}
	return all
}

func (w work) deciding() []int {
	var years []int
	for year, can := range w.can {
		if len(slices.Collect(can.all())) > 1 {
			years = append(years, year)
		}
	}
	return years
}

// falseYears returns the false years for the class, if some will do.
func (w work) falseYears(class int) (years []int, found bool) {
	years = lists.Shortest(len(w.can), func(list []int) bool {
		found = w.ifFalse(list).last()[class]
		return found
	})
	return years, found
}

// ifFalse lets the years of the list be of any kind, if they count.
func (w work) ifFalse(list []int) work {
	w.can = slices.Clone(w.can)
	for _, year := range list {
		if w.counts(w.zone.Years[year]) {
			w.can[year] = anyKind()
		}
	}
	return w
}
