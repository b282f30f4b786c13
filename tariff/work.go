package tariff

import (
	"iter"
	"slices"

	"hailstone/api"
	"hailstone/lists"
)

// hit is a crop with the day on which it was hit, and the count of its ears that were.
type hit struct {
	Truth
	crop int
}

// work has tariffs at work. They must be valid.
type work struct {
	tariffs
	parts map[hit]int // those that were asked for so far
}

func open(l []Tariff) (work, api.Errno) {
	if e := CheckTariffs(l); e != api.OK {
		return work{}, e
	}
	return work{tariffs: l, parts: map[hit]int{}}, api.OK
}

// openFor opens tariffs for claims, which must be valid.
func openFor(l []Tariff, claims ...Claim) (work, api.Errno) {
	w, e := open(l)
	switch {
	case e != api.OK:
		return work{}, e
	case len(claims) > api.MaxTariffClaims:
		return work{}, api.ErrLimit
	case !lists.Each(claims, w.validClaim):
		return work{}, api.ErrRange
	}
	return w, api.OK
}

// truths yields all truths of the claim, day by day, with rising counts.
func (c Claim) truths() iter.Seq[Truth] {
	return func(yield func(Truth) bool) {
		for day := c.Day.Lo; day <= c.Day.Hi; day++ {
			for count := c.Count.Lo; count <= c.Count.Hi; count++ {
				if !yield(Truth{Day: day, Count: count}) {
					return
				}
			}
		}
	}
}

// bounds returns the range from the minimum to the maximum of the payment in all truths.
func (w work) bounds(c Claim) Range {
	var payments []int
	for t := range c.truths() {
		payments = append(payments, w.payment(c, t))
	}
	return Range{Lo: lists.Minimum(payments...), Hi: slices.Max(payments)}
}

func (w work) payment(c Claim, t Truth) int {
	return c.Value * w.part(hit{Truth: t, crop: c.Crop}) / api.MaxTariffHundred
}

func (w work) part(h hit) int {
	if part, known := w.parts[h]; known {
		return part
	}
	part := w.of(h.Day).part(h)
	w.parts[h] = part
	return part
}

// of is the tariff of the day.
func (l tariffs) of(day int) Tariff { return l[last(l.froms(), day)] }

// last returns the index of the last of the rising days that is at most the day. The first one must be.
func last(days []int, day int) int {
	after, _ := slices.BinarySearch(days, day+1)
	return after - 1
}

// manner says what is paid of a loss that is not less than the Least.
type manner struct {
	paid func(Tariff, int) int
}

func (t Tariff) manner() manner {
	if t.Whole {
		return manner{paid: Tariff.whole}
	}
	return manner{paid: Tariff.aboveLeast}
}

func (t Tariff) whole(loss int) int { return loss }

func (t Tariff) aboveLeast(loss int) int { return loss - t.Least }

func (t Tariff) part(h hit) int {
	loss := t.loss(h)
	if loss < t.Least {
		return 0
	}
	return t.manner().paid(t, loss)
}

// loss is the rate of the count, which lies on a straight line between the rates of the two Counts around it.
func (t Tariff) loss(h hit) int {
	rates := t.Rates[h.crop][last(t.Weeks, h.Day)]
	i, listed := slices.BinarySearch(t.Counts, h.Count)
	if listed {
		return rates[i]
	}
	a, b := t.Counts[i-1], t.Counts[i]
	return (rates[i-1]*(b-h.Count) + rates[i]*(h.Count-a)) / (b - a)
}
