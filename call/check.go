package call

import (
	"hailstone/api"
	"hailstone/lists"
)

func (s Society) tooMany() bool {
	return len(s.Members) > api.MaxCallMembers || len(s.Losses) > api.MaxCallLosses
}

// valid reports whether the society is valid, but for what there is too much of.
func (s Society) valid() bool {
	members := limits{
		sum:   Range{Lo: 1, Hi: api.MaxCallSum},
		class: Range{Lo: 1, Hi: api.MaxCallClass},
		most:  Range{Hi: api.MaxCallPence},
	}
	return len(s.Members) > 0 && lists.Each(s.Members, members.allow) &&
		lists.Each(s.Losses, Range.valid) && s.Treaty.valid() && isPence(s.Reserve)
}

// limits are those of a member's numbers.
type limits struct{ sum, class, most Range }

func (l limits) allow(m Member) bool {
	return l.sum.has(m.Sum) && l.class.has(m.Class) && l.most.has(m.Most)
}

// hasTruth reports whether the truth is one of the society.
func (s Society) hasTruth(t Truth) bool {
	if len(t.Losses) != len(s.Losses) {
		return false
	}
	for i, r := range s.Losses {
		if !r.has(t.Losses[i]) {
			return false
		}
	}
	return s.Treaty.has(t.Treaty)
}

// canLeaveOut reports whether the list is an increasing one of members.
func (s Society) canLeaveOut(list []int) bool {
	return lists.Rises(list) && lists.Each(list, s.hasMember)
}

func (s Society) hasMember(n int) bool { return Range{Hi: len(s.Members) - 1}.has(n) }

func (r Range) valid() bool {
	return isPence(r.Lo) && isPence(r.Hi) && r.Lo <= r.Hi && r.Hi-r.Lo <= api.MaxCallWide
}

func (r Range) has(n int) bool { return r.Lo <= n && n <= r.Hi }

func isPence(n int) bool { return Range{Hi: api.MaxCallPence}.has(n) }
