package parcel

import (
	"hailstone/api"
	"hailstone/lists"
)

func tooMany(b Book) bool {
	return b.Owners > api.MaxParcelOwners || len(b.Parcels) > api.MaxParcelParcels || len(b.Entries) > api.MaxParcelEntries
}

// valid reports whether the book is valid, but for numbers that are too great in all.
func (w work) valid() bool {
	return within(w.Last, 0, api.MaxParcelLast) && w.Owners >= 1 && lists.Each(w.Parcels, w.validParcel) && lists.Each(w.Entries, w.validEntry)
}

func (w work) validParcel(p Parcel) bool {
	return w.isOwner(p.Owner) && within(p.Value, 0, api.MaxParcelValue) && w.validDays(p.Sown)
}

func (w work) validEntry(e Entry) bool {
	if !w.isNumber(e.Parcel) || !w.validDays(e.Day) {
		return false
	}
	// Compared with the entry, this shows whether a field without a meaning is not 0.
	has := Entry{Kind: e.Kind, Parcel: e.Parcel, Day: e.Day}
	fits := true
	switch e.Kind {
	case Sell:
		has.From, has.To = e.From, e.To
		fits = w.isOwner(e.From) && w.isOwner(e.To) && e.From != e.To
	case Split:
		has.Part = e.Part
		fits = within(e.Part, 1, api.MaxParcelValue)
	case Swap:
		has.Other = e.Other
		fits = w.isNumber(e.Other) && e.Other != e.Parcel
	case Harvest:
	default:
		return false
	}
	return fits && e == has
}

func (w work) validDays(r Range) bool { return r.Lo <= r.Hi && w.isDay(r.Lo) && w.isDay(r.Hi) }

func (w work) isDay(day int) bool { return within(day, 0, w.Last) }

func (w work) isOwner(owner int) bool { return within(owner, 0, w.Owners-1) }

func (w work) isNumber(parcel int) bool { return within(parcel, 0, w.numbers-1) }

func within(n, low, high int) bool { return low <= n && n <= high }

// fits reports whether the truth has one day of each range.
func (w work) fits(t Truth) bool {
	if len(t.Days) != len(w.Entries) || len(t.Sown) != len(w.Parcels) {
		return false
	}
	for i, day := range t.Days {
		if r := w.Entries[i].Day; !within(day, r.Lo, r.Hi) {
			return false
		}
	}
	for i, day := range t.Sown {
		if r := w.Parcels[i].Sown; !within(day, r.Lo, r.Hi) {
			return false
		}
	}
	return true
}
