package tariff

import (
	"slices"

	"hailstone/api"
	"hailstone/lists"
)

// tariffs is a list of tariffs that follow each other.
type tariffs []Tariff

func (l tariffs) tooMany() bool {
	return len(l) > api.MaxTariffTariffs || slices.ContainsFunc(l, Tariff.tooMany)
}

func (t Tariff) tooMany() bool {
	return len(t.Weeks) > api.MaxTariffWeeks || len(t.Counts) > api.MaxTariffCounts || len(t.Rates) > api.MaxTariffCrops
}

// valid reports whether this is a list of tariffs, but for what there is too much of.
func (l tariffs) valid() bool {
	return lists.Each(l, Tariff.valid) && risesFromZero(l.froms()) && lists.Each(l, l.hasSameCrops)
}

func (t Tariff) valid() bool {
	return isDay(t.From) && isHundredths(t.Least) &&
		risesFromZero(t.Weeks) && lists.Each(t.Weeks, isDay) &&
		risesFromZero(t.Counts) && t.Counts[len(t.Counts)-1] == api.MaxTariffCount &&
		len(t.Rates) > 0 && lists.Each(t.Rates, t.validCrop)
}

func (t Tariff) validCrop(weeks [][]int) bool {
	return len(weeks) == len(t.Weeks) && lists.Each(weeks, t.validWeek)
}

func (t Tariff) validWeek(rates []int) bool {
	return len(rates) == len(t.Counts) && lists.Each(rates, isHundredths)
}

func (l tariffs) hasSameCrops(t Tariff) bool { return len(t.Rates) == len(l[0].Rates) }

func (l tariffs) froms() []int {
	var days []int
	for _, t := range l {
		days = append(days, t.From)
	}
	return days
}

// risesFromZero reports whether the list rises, and its first element is 0.
func risesFromZero(list []int) bool {
	return len(list) > 0 && list[0] == 0 && lists.Rises(list)
}

func (l tariffs) validClaim(c Claim) bool {
	return l.hasCrop(c.Crop) && Range{Hi: api.MaxTariffValue}.has(c.Value) &&
		c.Day.within(isDay) && c.Day.Hi-c.Day.Lo <= api.MaxTariffWide && c.Count.within(isCount)
}

func (l tariffs) hasCrop(n int) bool { return isIndex(n, len(l[0].Rates)) }

// hasRates reports whether there is such a tariff, with such a crop and such a week.
func (l tariffs) hasRates(which, crop, week int) bool {
	return isIndex(which, len(l)) && l.hasCrop(crop) && isIndex(week, len(l[which].Weeks))
}

// has reports whether the truth is one of the claim.
func (c Claim) has(t Truth) bool { return c.Day.has(t.Day) && c.Count.has(t.Count) }

// within reports whether the range is one, and both ends pass the test.
func (r Range) within(passes func(int) bool) bool {
	return r.Lo <= r.Hi && passes(r.Lo) && passes(r.Hi)
}

func (r Range) has(n int) bool { return r.Lo <= n && n <= r.Hi }

func isIndex(n, size int) bool { return Range{Hi: size - 1}.has(n) }

func isDay(n int) bool { return Range{Hi: api.MaxTariffDay}.has(n) }

func isCount(n int) bool { return Range{Hi: api.MaxTariffCount}.has(n) }

func isHundredths(n int) bool { return Range{Hi: api.MaxTariffHundred}.has(n) }
