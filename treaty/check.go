package treaty

import (
	"hailstone/api"
	"hailstone/lists"
)

// ofSociety is the Of of a treaty that protects the society.
const ofSociety = -1

func (p Programme) tooMany() bool {
	return len(p.Losses) > api.MaxTreatyLosses || len(p.Treaties) > api.MaxTreatyTreaties || len(p.Reports) > api.MaxTreatyReports
}

// valid reports whether the programme is valid, but for what there is too much of.
func (p Programme) valid() bool {
	kinds := allKinds()
	return lists.Each(p.Losses, upTo(api.MaxTreatyLoss).covers) && upTo(api.MaxTreatyReserve).has(p.Reserve) &&
		lists.Each(p.Treaties, kinds.allow) && p.inOrder() && lists.Each(p.Reports, p.validReport)
}

// inOrder reports whether each treaty protects the society, or an earlier treaty.
func (p Programme) inOrder() bool {
	for n, t := range p.Treaties {
		if protected := (Range{Lo: ofSociety, Hi: n - 1}); !protected.has(t.Of) {
			return false
		}
	}
	return true
}

func (p Programme) validReport(r Report) bool {
	return p.hasTreaty(r.Treaty) && upTo(api.MaxTreatyReserve).covers(r.Paid)
}

// isTruth reports whether the list has one number of each of Losses.
func (p Programme) isTruth(losses []int) bool {
	if len(losses) != len(p.Losses) {
		return false
	}
	for i, r := range p.Losses {
		if !r.has(losses[i]) {
			return false
		}
	}
	return true
}

// hasSet reports whether the list is a set of treaties.
func (p Programme) hasSet(list []int) bool {
	return lists.Rises(list) && lists.Each(list, p.protectsSociety)
}

func (p Programme) protectsSociety(n int) bool {
	return p.hasTreaty(n) && p.Treaties[n].Of == ofSociety
}

func (p Programme) hasTreaty(n int) bool { return upTo(len(p.Treaties) - 1).has(n) }

func upTo(last int) Range { return Range{Hi: last} }

func (r Range) has(n int) bool { return r.Lo <= n && n <= r.Hi }

// covers reports whether the other range is one, and has no numbers but those of the range.
func (r Range) covers(other Range) bool {
	return r.Lo <= other.Lo && other.Lo <= other.Hi && other.Hi <= r.Hi
}
