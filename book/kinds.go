package book

import "hailstone/api"

// span is two numbers of a line, which are the ends of a range if the first one is at most the second one.
type span struct{ Lo, Hi int }

func (s span) isRange() bool { return s.Lo <= s.Hi }

// isNarrow reports whether this is a range whose ends differ by at most so much.
func (s span) isNarrow(wide int) bool { return s.isRange() && s.Hi-s.Lo <= wide }

// kind is one of numbers that have the same limits in all lines.
type kind int

// The kinds of numbers.
const (
	owners kind = iota
	values
	parts
	days
	hundredths
	counts
	flags
	sums
	parcels
)

func (k kind) limits() span {
	all := [...]span{
		owners:     {0, api.MaxParcelOwners - 1},
		values:     {0, api.MaxParcelValue},
		parts:      {1, api.MaxParcelValue},
		days:       {0, api.MaxParcelLast},
		hundredths: {0, api.MaxTariffHundred},
		counts:     {0, api.MaxTariffCount},
		flags:      {0, 1},
		sums:       {1, api.MaxCallSum},
		parcels:    {0, api.MaxZoneParcels},
	}
	return all[k]
}

func (k kind) has(n int) bool {
	limits := k.limits()
	return limits.Lo <= n && n <= limits.Hi
}

// covers reports whether this is a range of such numbers.
func (k kind) covers(s span) bool { return s.isRange() && k.has(s.Lo) && k.has(s.Hi) }
