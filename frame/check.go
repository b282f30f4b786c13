package frame

import (
	"hailstone/api"
	"hailstone/lists"
)

func (f Field) valid() bool {
	side := Range{Lo: 1, Hi: api.MaxFrameSide}
	// The sides come first, so that the places are counted only if they are few.
	return side.has(f.Rows) && side.has(f.Columns) && f.places() <= api.MaxFramePlaces &&
		len(f.Stems) == f.places() && lists.Each(f.Stems, isStems)
}

func (f Field) hasPlace(n int) bool { return Range{Hi: f.places() - 1}.has(n) }

// places is how many places the field has.
func (f Field) places() int { return f.Rows * f.Columns }

func isStems(n int) bool { return Range{Hi: api.MaxFrameStems}.has(n) }

func isPart(n int) bool { return Range{Hi: api.MaxFrameHundred}.has(n) }

// valid reports whether the survey is valid, but for how many counts, and choices, there are.
func (s Survey) valid() bool {
	return s.Field.valid() && isStems(s.Smooth) && lists.Each(s.Counts, s.validCount)
}

func (s Survey) validCount(c Count) bool {
	return s.Field.hasPlace(c.Place) &&
		c.Hits.Lo <= c.Hits.Hi && isStems(c.Hits.Lo) && isStems(c.Hits.Hi)
}

func (r Range) has(n int) bool { return r.Lo <= n && n <= r.Hi }

// choicesInAll is how many lists with the hits of each place there are, whether neighbours differ too much or not.
func (f Field) choicesInAll() int {
	all := 1
	for _, n := range f.Stems {
		all *= n + 1
	}
	return all
}

func checkLot(f Field, l Lot) api.Errno {
	if e := CheckField(f); e != api.OK {
		return e
	}
	seed := Range{Hi: api.MaxFrameSeed}
	if !seed.has(l.Seed) || !seed.has(l.Step) || l.Draws < 0 || l.Draws > min(api.MaxFrameDraws, f.places()) {
		return api.ErrRange
	}
	return api.OK
}
