package storm

import (
	"hailstone/api"
	"hailstone/lists"
)

func tooMany(s Storm) bool {
	return s.Wide > api.MaxStormWide || s.High > api.MaxStormHigh || len(s.Cards) > api.MaxStormCards
}

// valid reports whether the storm is valid, but for sizes of ranges that are too great in all.
func (w work) valid() bool {
	return w.Wide >= 2 && w.High >= 1 && 0 <= w.Fall && w.Fall <= api.MaxStormFall &&
		w.A.within(0, w.High-1) && w.B.within(0, w.High-1) &&
		w.Half.within(0, api.MaxStormHalf) && w.Peak.within(1, api.MaxStormPeak) &&
		lists.Each(w.Cards, w.validCard)
}

func (w work) validCard(c Card) bool {
	if !w.hasRect(c.rect()) || !c.Size.within(0, api.MaxStormPeak) {
		return false
	}
	return c.Hail || c.Size == Range{}
}

// hasRect reports whether the rectangle has places, and all of them are in the grid.
func (s Storm) hasRect(r Rect) bool {
	return r.X.within(0, s.Wide-1) && r.Y.within(0, s.High-1)
}

// within reports whether the range is one, and all its numbers are from low to high.
func (r Range) within(low, high int) bool {
	return low <= r.Lo && r.Lo <= r.Hi && r.Hi <= high
}

func (r Range) has(n int) bool { return r.Lo <= n && n <= r.Hi }

func (r Range) count() int { return r.Hi - r.Lo + 1 }

// choicesInAll multiplies the sizes of the ranges of which a truth has one number each.
func (s Storm) choicesInAll() int {
	return s.A.count() * s.B.count() * s.Half.count() * s.Peak.count()
}

// isChoice reports whether the truth has one number of each range, whether the cards are right in it or not.
func (s Storm) isChoice(t Truth) bool {
	return s.A.has(t.A) && s.B.has(t.B) && s.Half.has(t.Half) && s.Peak.has(t.Peak)
}
