package tariff

import (
	"hailstone/api"
	"hailstone/lists"
)

// rates are those of a crop and a week, one for each count.
type rates []int

// flags are on some of the rates.
type flags [api.MaxTariffCounts]bool

func (r rates) misprints() []int { return lists.Shortest(len(r), r.canBeMisprints) }

// canBeMisprints reports whether the rates with these indexes can be misprints together.
func (r rates) canBeMisprints(list []int) bool {
	kept := r.without(list)
	return r.rising(kept) == kept
}

// without flags all rates but those with these indexes.
func (r rates) without(list []int) flags {
	var kept flags
	for i := range r {
		kept[i] = true
	}
	for _, i := range list {
		kept[i] = false
	}
	return kept
}

// rising flags those of the kept rates that are not less than the kept one before them.
func (r rates) rising(kept flags) flags {
	before := 0
	for i, rate := range r {
		if kept[i] {
			kept[i] = rate >= before
			before = rate
		}
	}
	return kept
}
