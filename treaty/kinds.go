package treaty

import (
	"hailstone/api"
	"hailstone/lists"
)

// hundred has as many parts as a Quota counts a loss in.
const hundred = 100

// kind is what the treaties of a kind have in common: the limits of their numbers, and how much they take of what reaches them, having paid so much for earlier losses.
type kind struct {
	part, above, most, times Range
	takes                    func(t Treaty, reaches, paid int) int
}

// kinds has all kinds of treaties.
type kinds [2]kind

func allKinds() kinds {
	return kinds{
		Quota: {part: Range{Lo: 1, Hi: hundred}, takes: Treaty.part},
		Excess: {
			above: upTo(api.MaxTreatyLoss),
			most:  Range{Lo: 1, Hi: api.MaxTreatyLoss},
			times: upTo(api.MaxTreatyTimes),
			takes: Treaty.excess,
		},
	}
}

// allow reports whether the treaty is valid, but for its Of.
func (k kinds) allow(t Treaty) bool {
	return upTo(len(k)-1).has(t.Kind) && k[t.Kind].allows(t) && upTo(api.MaxTreatyPrice).has(t.Price)
}

func (k kind) allows(t Treaty) bool {
	return k.part.has(t.Part) && k.above.has(t.Above) && k.most.has(t.Most) && k.times.has(t.Times)
}

// part is what a Quota takes, whatever it paid.
func (t Treaty) part(reaches, _ int) int { return reaches * t.Part / hundred }

// excess is what an Excess takes, which pays no more in all than its Most and its reinstatements.
func (t Treaty) excess(reaches, paid int) int {
	return lists.Minimum(max(0, reaches-t.Above), t.Most, t.Most*(t.Times+1)-paid)
}
