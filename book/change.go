package book

import (
	"hailstone/api"
	"hailstone/call"
	"hailstone/lists"
	"hailstone/parcel"
	"hailstone/tariff"
	"hailstone/zone"
)

// change is a state that is being changed by a line, which has these numbers.
type change struct {
	State
	numbers []int
}

// span is the two numbers from this index on.
func (c *change) span(from int) span { return span{c.numbers[from], c.numbers[from+1]} }

// has reports whether the list has an element with the index. No number of a line is below 0.
func has[T any](list []T, index int) bool { return index < len(list) }

// without returns the list without the element with the index.
func without[T any](list []T, index int) []T { return lists.Without(list, []int{index}) }

func (c *change) parcel() {
	owner, value, sown := c.numbers[0], c.numbers[1], c.span(2)
	must(api.ErrRange, owners.has(owner), values.has(value), days.covers(sown))
	must(api.ErrState, len(c.Book.Entries) == 0)
	must(api.ErrLimit, len(c.Book.Parcels) < api.MaxParcelParcels)
	c.Book.Parcels = append(c.Book.Parcels, parcel.Parcel{Owner: owner, Value: value, Sown: parcel.Range(sown)})
}

func (c *change) sell() {
	number, from, to, day := c.numbers[0], c.numbers[1], c.numbers[2], c.span(3)
	must(api.ErrRange, owners.has(from), owners.has(to), from != to, days.covers(day))
	must(api.ErrNone, c.hasNumber(number))
	c.enter(parcel.Entry{Kind: parcel.Sell, Parcel: number, From: from, To: to, Day: parcel.Range(day)})
}

func (c *change) split() {
	number, part, day := c.numbers[0], c.numbers[1], c.span(2)
	must(api.ErrRange, parts.has(part), days.covers(day))
	must(api.ErrNone, c.hasNumber(number))
	c.enter(parcel.Entry{Kind: parcel.Split, Parcel: number, Part: part, Day: parcel.Range(day)})
}

func (c *change) swap() {
	number, other, day := c.numbers[0], c.numbers[1], c.span(2)
	must(api.ErrRange, number != other, days.covers(day))
	must(api.ErrNone, c.hasNumber(number), c.hasNumber(other))
	c.enter(parcel.Entry{Kind: parcel.Swap, Parcel: number, Other: other, Day: parcel.Range(day)})
}

func (c *change) harvest() {
	number, day := c.numbers[0], c.span(1)
	must(api.ErrRange, days.covers(day))
	must(api.ErrNone, c.hasNumber(number))
	c.enter(parcel.Entry{Kind: parcel.Harvest, Parcel: number, Day: parcel.Range(day)})
}

// hasNumber reports whether there is such a number of a parcel before the line, which may make one more.
func (c *change) hasNumber(number int) bool {
	last := len(c.Book.Parcels) - 1
	for _, e := range c.Book.Entries {
		if e.Kind == parcel.Split {
			last++
		}
	}
	return number <= last
}

func (c *change) enter(e parcel.Entry) {
	must(api.ErrLimit, len(c.Book.Entries) < api.MaxParcelEntries)
	c.Book.Entries = append(c.Book.Entries, e)
}

func (c *change) strike() {
	k := c.numbers[0]
	must(api.ErrNone, has(c.Book.Entries, k))
	must(api.ErrState, c.Book.Entries[k].Kind != parcel.Split)
	c.Book.Entries = without(c.Book.Entries, k)
}

func (c *change) days() {
	k, day := c.numbers[0], c.span(1)
	must(api.ErrNone, has(c.Book.Entries, k))
	must(api.ErrRange, days.covers(day))
	c.Book.Entries[k].Day = parcel.Range(day)
}

func (c *change) sown() {
	k, sown := c.numbers[0], c.span(1)
	must(api.ErrNone, has(c.Book.Parcels, k))
	must(api.ErrRange, days.covers(sown))
	c.Book.Parcels[k].Sown = parcel.Range(sown)
}

func (c *change) least() {
	least := c.numbers[0]
	must(api.ErrRange, hundredths.has(least))
	c.Tariff.Least = least
}

func (c *change) whole() {
	flag := c.numbers[0]
	must(api.ErrRange, flags.has(flag))
	c.Tariff.Whole = flag == 1
}

func (c *change) rate() {
	week, k, rate := c.numbers[0], c.numbers[1], c.numbers[2]
	must(api.ErrNone, has(c.Tariff.Weeks, week), has(c.Tariff.Counts, k))
	must(api.ErrRange, hundredths.has(rate))
	c.Tariff.Rates[0][week][k] = rate
}

func (c *change) hail() {
	owner, day, count := c.numbers[0], c.numbers[1], c.span(2)
	must(api.ErrRange, owners.has(owner), days.has(day), counts.covers(count))
	must(api.ErrLimit, len(c.Losses) < api.MaxCallLosses)
	c.Losses = append(c.Losses, Loss{Owner: owner, Day: day, Count: tariff.Range(count)})
}

func (c *change) count() {
	k, count := c.numbers[0], c.span(1)
	must(api.ErrNone, has(c.Losses, k))
	must(api.ErrRange, counts.covers(count))
	c.Losses[k].Count = tariff.Range(count)
}

func (c *change) drop() {
	k := c.numbers[0]
	must(api.ErrNone, has(c.Losses, k))
	c.Losses = without(c.Losses, k)
}

func (c *change) member() {
	sum, most := c.numbers[0], c.numbers[1]
	must(api.ErrRange, sums.has(sum))
	must(api.ErrLimit, len(c.Members) < api.MaxCallMembers)
	c.Members = append(c.Members, Member{Sum: sum, Most: most})
}

func (c *change) most() {
	k, most := c.numbers[0], c.numbers[1]
	must(api.ErrNone, has(c.Members, k))
	c.Members[k].Most = most
}

func (c *change) leave() {
	k := c.numbers[0]
	must(api.ErrNone, has(c.Members, k))
	must(api.ErrState, len(c.Members) > 1)
	c.Members = without(c.Members, k)
}

func (c *change) treaty() {
	treaty := c.span(0)
	must(api.ErrRange, treaty.isNarrow(api.MaxCallWide))
	c.Treaty = call.Range(treaty)
}

func (c *change) reserve() { c.Reserve = c.numbers[0] }

func (c *change) year() {
	losses, premiums, number := c.span(0), c.span(2), c.numbers[4]
	must(api.ErrRange, losses.isNarrow(api.MaxZoneWide), premiums.isNarrow(api.MaxZoneWide), parcels.has(number))
	must(api.ErrLimit, len(c.Zone.Years) < api.MaxZoneYears)
	year := zone.Year{Losses: zone.Range(losses), Premiums: zone.Range(premiums), Parcels: number}
	c.Zone.Years = append(c.Zone.Years, year)
}

func (c *change) exempt() {
	k, flag := c.numbers[0], c.numbers[1]
	must(api.ErrNone, has(c.Zone.Years, k))
	must(api.ErrRange, flags.has(flag))
	c.Zone.Years[k].Exempt = flag == 1
}

func (c *change) undo() {
	years := len(c.Zone.Years)
	must(api.ErrNone, years > 0)
	c.Zone.Years = without(c.Zone.Years, years-1)
}
