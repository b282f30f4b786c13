package double

import (
	"hailstone/api"
	"hailstone/lists"
	"hailstone/parcel"
)

// hundred has as many parts as the value of a parcel is counted in.
const hundred = 100

func tooMany(c Case) bool {
	return c.Societies > api.MaxDoubleSocieties || len(c.Covers) > api.MaxDoubleCovers || len(c.Claims) > api.MaxDoubleClaims
}

// valid reports whether the case is valid, but for its book, which must be, and for numbers that are too great in all.
func (c Case) valid() bool {
	return c.Societies >= 1 && c.isDay(c.Day) && c.isParcel(c.Parcel) && c.Loss.within(hundred) &&
		lists.Each(c.Covers, c.validCover) && lists.Each(c.Claims, c.validClaim)
}

func (c Case) validCover(v Cover) bool {
	return c.isSociety(v.Society) && c.isOwner(v.Owner) && c.isParcel(v.Parcel) && isUpTo(v.Sum, api.MaxDoubleSum) &&
		v.Start.within(c.Book.Last) && c.isDay(v.Until)
}

func (c Case) validClaim(x Claim) bool {
	return c.isSociety(x.Society) && x.Paid.within(api.MaxDoubleSum)
}

func (c Case) isSociety(n int) bool { return isUpTo(n, c.Societies-1) }

func (c Case) isOwner(n int) bool { return isUpTo(n, c.Book.Owners-1) }

func (c Case) isDay(n int) bool { return isUpTo(n, c.Book.Last) }

// isParcel reports whether the book has such a number of a parcel: each Split makes one more.
func (c Case) isParcel(n int) bool {
	last := len(c.Book.Parcels) - 1
	for _, e := range c.Book.Entries {
		if e.Kind == parcel.Split {
			last++
		}
	}
	return isUpTo(n, last)
}

// fits reports whether the truth, but for its truth of the book, has one number of each range.
func (c Case) fits(t Truth) bool {
	if len(t.Starts) != len(c.Covers) {
		return false
	}
	for i, day := range t.Starts {
		if !c.Covers[i].Start.has(day) {
			return false
		}
	}
	return c.Loss.has(t.Loss)
}

// canSettle reports whether a case could have this amount, and societies with these sums.
func canSettle(amount int, sums []int) bool {
	const most = api.MaxDoubleSum * api.MaxDoubleCovers
	isSum := func(n int) bool { return isUpTo(n, most) }
	return isUpTo(amount, api.MaxDoubleSum) && len(sums) > 0 && lists.Each(sums, isSum)
}

func (r Range) has(n int) bool { return r.Lo <= n && n <= r.Hi }

// within reports whether the range is valid, and has no number below 0 or above the last one.
func (r Range) within(last int) bool { return 0 <= r.Lo && r.Lo <= r.Hi && r.Hi <= last }

func isUpTo(n, last int) bool { return 0 <= n && n <= last }
