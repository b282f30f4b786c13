package round

import (
	"hailstone/api"
	"hailstone/lists"
)

func (r Round) tooMuch() bool {
	return r.Adjusters > api.MaxRoundAdjusters || r.Last > api.MaxRoundLast ||
		r.Miles > api.MaxRoundMiles || len(r.Farms) > api.MaxRoundFarms
}

// valid reports whether the round is valid, but for what there is too much of.
func (r Round) valid() bool {
	return r.Adjusters >= 1 && r.Last >= 0 && r.Miles >= 0 && r.Home.valid() && lists.Each(r.Farms, r.validFarm)
}

func (r Round) validFarm(f Farm) bool {
	return f.At.valid() && f.Days.Lo <= f.Days.Hi && r.hasDay(f.Days.Lo) && r.hasDay(f.Days.Hi)
}

func (p Point) valid() bool {
	edges := Range{Hi: api.MaxRoundEdge}
	return edges.has(p.X) && edges.has(p.Y)
}

func (r Round) hasDay(n int) bool { return Range{Hi: r.Last}.has(n) }

func (r Round) hasFarm(n int) bool { return Range{Hi: len(r.Farms) - 1}.has(n) }

// allows reports whether the round has such an adjuster, and the farm can be visited on the day.
func (r Round) allows(v Visit, farm int) bool {
	return Range{Hi: r.Adjusters - 1}.has(v.Adjuster) && r.Farms[farm].Days.has(v.Day)
}

func (r Range) has(n int) bool { return r.Lo <= n && n <= r.Hi }
