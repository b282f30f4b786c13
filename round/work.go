package round

import (
	"iter"
	"slices"

	"hailstone/api"
	"hailstone/lists"
)

// set has some of the farms.
type set [api.MaxRoundFarms]bool

// work is a round at work. It must be valid.
type work struct {
	Round
	all     set
	lengths map[set]int // those that were asked for so far
}

func open(r Round) (work, api.Errno) {
	if e := CheckRound(r); e != api.OK {
		return work{}, e
	}
	w := work{Round: r, lengths: map[set]int{}}
	for farm := range r.Farms {
		w.all[farm] = true
	}
	return w, api.OK
}

// openPlanned opens a round that must have a plan, to ask it about farms, which must be different ones.
func openPlanned(r Round, asked ...int) (work, api.Errno) {
	w, e := open(r)
	if e != api.OK {
		return work{}, e
	}
	if _, different := w.setOf(asked); !different {
		return work{}, api.ErrRange
	}
	if !w.hasPlan(w.all) {
		return work{}, api.ErrShort
	}
	return w, api.OK
}

// setOf returns the set of the farms, and whether they are different farms of the round.
func (r Round) setOf(farms []int) (set, bool) {
	var s set
	for _, farm := range farms {
		if !r.hasFarm(farm) || s[farm] {
			return set{}, false
		}
		s[farm] = true
	}
	return s, true
}

func (s set) with(farm int) set {
	s[farm] = true
	return s
}

func (s set) without(farm int) set {
	s[farm] = false
	return s
}

// rota has the farms that each adjuster visits on each day.
type rota map[Visit]set

// choices yields the visits by which the farm can be added to the rota. Adjusters who visit nothing yet on a day are all alike, so only the first of them is tried: this keeps the plans few enough to try all.
func (w work) choices(now rota, farm int) iter.Seq[Visit] {
	return func(yield func(Visit) bool) {
		days := w.Farms[farm].Days
		for day := days.Lo; day <= days.Hi; day++ {
			for adjuster := range w.Adjusters {
				v := Visit{Adjuster: adjuster, Day: day}
				idle := now[v] == set{}
				if w.canWalk(now[v].with(farm)) && !yield(v) {
					return
				}
				if idle {
					break
				}
			}
		}
	}
}

// plans yields the plans for a set of farms, but for those that differ from one of them only in who makes which walk of a day. A plan is written over by the next one.
func (w work) plans(s set) iter.Seq[[]Visit] {
	return func(yield func([]Visit) bool) {
		plan := make([]Visit, len(w.Farms))
		now := rota{}
		var choose func(farm int) bool
		choose = func(farm int) bool {
			if farm == len(plan) {
				return yield(plan)
			}
			if !s[farm] {
				return choose(farm + 1)
			}
			for v := range w.choices(now, farm) {
				plan[farm], now[v] = v, now[v].with(farm)
				if !choose(farm + 1) {
					return false
				}
				now[v] = now[v].without(farm)
			}
			return true
		}
		choose(0)
	}
}

// hasPlan reports whether there is a plan for the set of farms alone.
func (w work) hasPlan(s set) bool {
	for range w.plans(s) {
		return true
	}
	return false
}

// isPlan reports whether the list is a plan of the round. A part of what can be walked can be walked too, so it does no harm to look at sets that are not complete yet.
func (w work) isPlan(l []Visit) bool {
	if len(l) != len(w.Farms) {
		return false
	}
	now := rota{}
	for farm, v := range l {
		now[v] = now[v].with(farm)
		if !w.allows(v, farm) || !w.canWalk(now[v]) {
			return false
		}
	}
	return true
}

// canGiveUp reports whether the farms of the list can be given up together.
func (w work) canGiveUp(list []int) bool {
	rest := w.all
	for _, farm := range list {
		rest = rest.without(farm)
	}
	return w.hasPlan(rest)
}

// isProof reports whether the list is a proof that the round has no plan.
func (w work) isProof(list []int) bool {
	s, different := w.setOf(list)
	return different && slices.IsSorted(list) && !w.hasPlan(s)
}

// search is for a list of farms that must be something.
type search struct {
	work
	must func(work, []int) bool
}

// shortest returns the shortest list that is what it must be; of several ones, the one that is lexicographically first.
func (s search) shortest() []int { return lists.Shortest(len(s.Farms), s.passes) }

func (s search) passes(list []int) bool { return s.must(s.work, list) }
