package call

import (
	"iter"
	"slices"

	"hailstone/api"
	"hailstone/lists"
)

// work is a society at work, of which some members are asked. It must be valid.
type work struct {
	Society
	asked flags
}

// open opens a society in which the members of the list, which must be one, are not asked.
func open(s Society, out ...int) (work, api.Errno) {
	if e := CheckSociety(s); e != api.OK {
		return work{}, e
	}
	if !s.canLeaveOut(out) {
		return work{}, api.ErrRange
	}
	return s.without(out), api.OK
}

func (s Society) without(out []int) work {
	w := work{Society: s}
	for i := range len(s.Members) {
		w.asked[i] = !slices.Contains(out, i)
	}
	return w
}

// need is what is needed for losses of so much, of which treaties pay so much.
func (s Society) need(losses, treaty int) int { return max(0, losses-s.Reserve-treaty) }

// needs yields the needs of all truths, each of them once, in increasing order. All numbers between two of them are needs, too: a single loss, or the Treaty, can be a penny more.
func (s Society) needs() iter.Seq[int] {
	return func(yield func(int) bool) {
		var losses Range
		for _, r := range s.Losses {
			losses.Lo += r.Lo
			losses.Hi += r.Hi
		}
		least, greatest := s.need(losses.Lo, s.Treaty.Hi), s.need(losses.Hi, s.Treaty.Lo)
		for need := least; need <= greatest; need++ {
			if !yield(need) {
				return
			}
		}
	}
}

// question is asked of the outcomes of all needs.
type question struct {
	ask func(outcome) int
}

func callOf(member int) func(outcome) int {
	return func(o outcome) int { return o.calls[member] }
}

// bounds returns the range from the minimum to the maximum of the answers in all truths.
func (w work) bounds(q question) Range {
	var answers []int
	for need := range w.needs() {
		answers = append(answers, q.ask(w.share(need)))
	}
	return Range{Lo: lists.Minimum(answers...), Hi: slices.Max(answers)}
}

func (w work) greatestNeed() int { return w.bounds(question{outcome.needed}).Hi }

func (w work) suffices(rate int) bool { return w.brings(rate) >= w.greatestNeed() }

// brings is what the rate brings. Each member's part of it is rounded down.
func (w work) brings(rate int) int {
	sum := 0
	for _, m := range w.Members {
		sum += min(m.units()*rate/api.MaxCallHundred, m.Most)
	}
	return sum
}

// missed reports whether something is short in some truth if the members of the list are not asked.
func (s Society) missed(list []int) bool {
	return s.without(list).bounds(question{outcome.short}).Hi > 0
}
