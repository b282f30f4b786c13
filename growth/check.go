package growth

import (
	"hailstone/api"
	"hailstone/lists"
)

// hundred is all of a crop: damage, what is seen and what recovers are hundredths.
const hundred = 100

func tooMany(s Season) bool {
	return s.Last > api.MaxGrowthLast || len(s.Rules) > api.MaxGrowthCrops ||
		len(s.Fields) > api.MaxGrowthFields || len(s.Visits) > api.MaxGrowthVisits
}

// valid reports whether the season is valid, but for sizes of ranges that are too great in all.
func (s Season) valid() bool {
	return s.Last >= 0 && len(s.Rules) > 0 && len(s.Fields) > 0 &&
		lists.Each(s.Rules, s.validRule) && lists.Each(s.Fields, s.validField) && lists.Each(s.Visits, s.validVisit)
}

func (s Season) validRule(rule []int) bool {
	return len(rule) == s.Last+1 && lists.Each(rule, isHundredths)
}

func (s Season) validField(f Field) bool {
	return Range{Hi: len(s.Rules) - 1}.has(f.Crop) && f.Week.within(0, s.Last) &&
		f.Damage.within(0, hundred) && f.Old.within(0, hundred)
}

func (s Season) validVisit(v Visit) bool {
	return s.hasField(v.Field) && s.hasWeek(v.Week) && v.Seen.within(0, hundred)
}

func (s Season) hasField(n int) bool { return Range{Hi: len(s.Fields) - 1}.has(n) }

func (s Season) hasWeek(n int) bool { return Range{Hi: s.Last}.has(n) }

func isHundredths(n int) bool { return Range{Hi: hundred}.has(n) }

// hasFewChoices reports whether the sizes of the field's ranges, multiplied, are not too great.
func (f Field) hasFewChoices() bool {
	return f.Week.count()*f.Damage.count()*f.Old.count() <= api.MaxGrowthTruths
}

// isChoice reports whether the truth has one number of each range of the field.
func (f Field) isChoice(t Truth) bool {
	return f.Week.has(t.Week) && f.Damage.has(t.Damage) && f.Old.has(t.Old)
}

// within reports whether the range is one, and all its numbers are from low to high.
func (r Range) within(low, high int) bool {
	return low <= r.Lo && r.Lo <= r.Hi && r.Hi <= high
}

func (r Range) has(n int) bool { return r.Lo <= n && n <= r.Hi }

func (r Range) count() int { return r.Hi - r.Lo + 1 }
