package zone

import (
	"slices"

	"hailstone/api"
	"hailstone/lists"
)

// valid reports whether the rule is valid, but for too many classes.
func (r Rule) valid() bool {
	return r.Classes > 0 && upTo(api.MaxZoneHundred).covers(Range{Lo: r.Good, Hi: r.Bad}) &&
		upTo(api.MaxZoneRest).has(r.Rest) && upTo(api.MaxZoneParcels).has(r.Fewest) && r.hasPrices()
}

// hasPrices reports whether each class has a price, which does not fall.
func (r Rule) hasPrices() bool {
	price := Range{Lo: 1, Hi: api.MaxZonePence}
	return len(r.Price) == r.Classes && lists.Each(r.Price, price.has) && slices.IsSorted(r.Price)
}

// allows reports whether the zone is valid, but for too many years.
func (r Rule) allows(z Zone) bool {
	year := limits{pence: upTo(api.MaxZonePence), wide: upTo(api.MaxZoneWide), parcels: upTo(api.MaxZoneParcels)}
	return r.has(z.First) && lists.Each(z.Years, year.allow)
}

func (r Rule) has(class int) bool { return upTo(r.Classes - 1).has(class) }

// limits are those of a year's numbers, and of how wide its ranges are.
type limits struct{ pence, wide, parcels Range }

func (l limits) allow(y Year) bool {
	return l.allowRange(y.Losses) && l.allowRange(y.Premiums) && l.parcels.has(y.Parcels)
}

func (l limits) allowRange(r Range) bool { return l.pence.covers(r) && l.wide.has(r.Hi-r.Lo) }

func (z Zone) has(year int) bool { return upTo(len(z.Years) - 1).has(year) }

// hasTruth reports whether the truth has one number of each range.
func (z Zone) hasTruth(t Truth) bool {
	if len(t.Losses) != len(z.Years) || len(t.Premiums) != len(z.Years) {
		return false
	}
	for n, y := range z.Years {
		if !y.Losses.has(t.Losses[n]) || !y.Premiums.has(t.Premiums[n]) {
			return false
		}
	}
	return true
}

func upTo(last int) Range { return Range{Hi: last} }

func (r Range) has(n int) bool { return r.Lo <= n && n <= r.Hi }

// covers reports whether the other range is one, and has no numbers but those of the range.
func (r Range) covers(other Range) bool {
	return r.Lo <= other.Lo && other.Lo <= other.Hi && other.Hi <= r.Hi
}
