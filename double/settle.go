package double

import (
	"slices"

	"hailstone/api"
	"hailstone/lists"
)

// perSociety has a number for each society. Beyond the societies that there are it has 0.
type perSociety [api.MaxDoubleSocieties]int

func (p perSociety) list(societies int) []int { return slices.Clone(p[:societies]) }

// upTo is the sum of the numbers of the societies from 0 to this one.
func (p perSociety) upTo(society int) int {
	sum := 0
	for _, n := range p[:society+1] {
		sum += n
	}
	return sum
}

// agree reports whether the claims are right if this is what all societies pay.
func (p perSociety) agree(claims []Claim) bool {
	return lists.Each(claims, func(x Claim) bool { return x.Paid.has(p[x.Society]) })
}

// damage is an amount, with the sums that all societies insured.
type damage struct {
	amount int
	sums   perSociety
}

// settle returns what all societies pay. It rounds what the societies up to each one pay together: so nothing of the amount is lost.
func (d damage) settle() perSociety {
	all := d.sums.upTo(len(d.sums) - 1)
	if all <= d.amount {
		return d.sums
	}
	var pays perSociety
	before := 0
	for society := range len(pays) {
		paid := d.amount * d.sums.upTo(society) / all
		pays[society] = paid - before
		before = paid
	}
	return pays
}

// settlement is a damage, with what all societies pay.
type settlement struct {
	damage
	pays perSociety
}

func (s settlement) paidBy(society int) int { return s.pays[society] }

func (s settlement) paidUpTo(society int) int { return s.pays.upTo(society) }

// refundOf is what the society would pay alone, less what it pays.
func (s settlement) refundOf(society int) int {
	return min(s.sums[society], s.amount) - s.pays[society]
}
