package umpire

import (
	"hailstone/api"
	"hailstone/lists"
	"hailstone/tariff"
)

// valid reports whether the case is valid, but for its tariffs, which must be, and the number of its fields.
func (c Case) valid() bool {
	return Range{Hi: api.MaxTariffDay}.has(c.Day) && Range{Hi: api.MaxUmpireFee}.has(c.Fee) && lists.Each(c.Fields, c.validField)
}

func (c Case) validField(f Field) bool {
	ranges := []Range{f.First, f.Second, f.Umpire}
	return c.canClaim(f) && isCount(f.Near) && lists.Each(ranges, Range.validCounts)
}

// canClaim reports whether the field has a crop and a value as claims have them.
func (c Case) canClaim(f Field) bool {
	_, e := tariff.Bounds(c.Tariffs, c.claim(f, 0))
	return e == api.OK
}

// claim is the one for the field with this count.
func (c Case) claim(f Field, count int) tariff.Claim {
	return tariff.Claim{
		Crop: f.Crop, Value: f.Value,
		Day: tariff.Range{Lo: c.Day, Hi: c.Day}, Count: tariff.Range{Lo: count, Hi: count},
	}
}

func (c Case) hasField(n int) bool { return Range{Hi: len(c.Fields) - 1}.has(n) }

// hasTruth reports whether the list is a truth of the case.
func (c Case) hasTruth(t []Three) bool {
	if len(t) != len(c.Fields) {
		return false
	}
	for i, f := range c.Fields {
		if !f.has(t[i]) {
			return false
		}
	}
	return true
}

func (f Field) has(t Three) bool {
	return f.First.has(t.First) && f.Second.has(t.Second) && f.Umpire.has(t.Umpire)
}

func (r Range) validCounts() bool {
	return isCount(r.Lo) && isCount(r.Hi) && r.Lo <= r.Hi && r.Hi-r.Lo <= api.MaxUmpireWide
}

func (r Range) has(n int) bool { return r.Lo <= n && n <= r.Hi }

func isCount(n int) bool { return Range{Hi: api.MaxTariffCount}.has(n) }
