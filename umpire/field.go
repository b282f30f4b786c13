package umpire

import (
	"iter"

	"hailstone/api"
)

// side says who loses a field.
type side int

const (
	notCalled side = iota
	nobodyLoses
	farmerLoses
	societyLoses
	sides = iota
)

// counts has a flag for each count.
type counts [api.MaxTariffCount + 1]bool

func (c counts) list() []int {
	var list []int
	for n := range len(c) {
		if c[n] {
			list = append(list, n)
		}
	}
	return list
}

// threes yields all that the three can say about the field.
func (f Field) threes() iter.Seq[Three] {
	return func(yield func(Three) bool) {
		for first := f.First.Lo; first <= f.First.Hi; first++ {
			for second := f.Second.Lo; second <= f.Second.Hi; second++ {
				for umpire := f.Umpire.Lo; umpire <= f.Umpire.Hi; umpire++ {
					if !yield(Three{First: first, Second: second, Umpire: umpire}) {
						return
					}
				}
			}
		}
	}
}

func (f Field) called(t Three) bool { return distance(t.First, t.Second) > f.Near }

// settled is the settled count.
func (f Field) settled(t Three) int {
	if !f.called(t) {
		return (t.First + t.Second) / 2
	}
	return min(max(t.Umpire, min(t.First, t.Second)), max(t.First, t.Second))
}

func (f Field) loser(t Three) side {
	settled := f.settled(t)
	first, second := distance(t.First, settled), distance(t.Second, settled)
	switch {
	case !f.called(t):
		return notCalled
	case first > second:
		return farmerLoses
	case second > first:
		return societyLoses
	}
	return nobodyLoses
}

// counts flags all counts that can be settled.
func (f Field) counts() counts {
	var all counts
	for t := range f.threes() {
		all[f.settled(t)] = true
	}
	return all
}

// calls is whether the umpire is called: Always, Never or Perhaps.
func (f Field) calls() int {
	called, not := false, false
	for t := range f.threes() {
		is := f.called(t)
		called, not = called || is, not || !is
	}
	switch {
	case !not:
		return Always
	case !called:
		return Never
	}
	return Perhaps
}

func distance(a, b int) int { return max(a, b) - min(a, b) }
