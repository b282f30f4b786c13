// Package parcel is layer 1: it keeps the book of parcels that are sold, split, exchanged and harvested on days that are known only within ranges. See shared/doc/01-parcel.md.
package parcel

import (
	"slices"

	"hailstone/api"
	"hailstone/lists"
)

// Range has all whole numbers from Lo to Hi, both included.
type Range struct{ Lo, Hi int }

// Parcel is a field that was sown on one of the days of Sown.
type Parcel struct {
	Owner, Value int
	Sown         Range
}

// Entry happens on one of the days of Day. Fields that have no meaning for its Kind are 0.
type Entry struct {
	Kind, Parcel, Other, From, To, Part int
	Day                                 Range
}

// Book has the days from 0 to Last. Each Split of Entries makes one more number of a parcel.
type Book struct {
	Last, Owners int
	Parcels      []Parcel
	Entries      []Entry
}

// Truth has a day for each of Entries, and a sowing day for each of Parcels.
type Truth struct{ Days, Sown []int }

// Holding says how a parcel is at the end of a day.
type Holding struct {
	There, Covered bool
	Owner, Value   int
}

// The kinds of entries.
const (
	Sell = iota
	Split
	Swap
	Harvest
)

// In which truths a parcel is covered.
const (
	Always = iota + 1
	Never
	Perhaps
)

// CheckBook returns the error of the book, or OK.
func CheckBook(b Book) api.Errno {
	if tooMany(b) {
		return api.ErrLimit
	}
	w := open(b)
	if !w.valid() {
		return api.ErrArg
	}
	if lists.Number(w.ranges()) > api.MaxParcelTruths {
		return api.ErrLimit
	}
	return api.OK
}

// Play returns how each number of a parcel is at the end of the day, in the truth.
func Play(b Book, t Truth, day int) ([]Holding, api.Errno) {
	if e := CheckBook(b); e != api.OK {
		return nil, e
	}
	w := open(b)
	if !w.fits(t) || !w.isDay(day) {
		return nil, api.ErrRange
	}
	end, possible := w.play(t, day)
	if !possible {
		return nil, api.ErrFalse
	}
	holdings := make([]Holding, w.numbers)
	for n := range holdings {
		holdings[n] = end[n].holding(day)
	}
	return holdings, api.OK
}

// Owners returns to whom the parcel can belong at the end of the day, in increasing order.
func Owners(b Book, parcel, day int) ([]int, api.Errno) {
	ends, e := endsOfParcel(b, parcel, day)
	if e != api.OK {
		return nil, e
	}
	held := map[tenure]bool{}
	for _, end := range ends {
		if p := end[parcel]; p.there {
			held[p.tenure] = true
		}
	}
	var owners []int
	for who := range held {
		owners = append(owners, who.owner)
	}
	slices.Sort(owners)
	return slices.Compact(owners), api.OK
}

// Covered returns whether the parcel is covered at the end of the day: Always, Never or Perhaps.
func Covered(b Book, parcel, day int) (int, api.Errno) {
	ends, e := endsOfParcel(b, parcel, day)
	if e != api.OK {
		return 0, e
	}
	covered := func(end states) bool { return end[parcel].covered(day) }
	switch {
	case lists.Each(ends, covered):
		return Always, api.OK
	case slices.ContainsFunc(ends, covered):
		return Perhaps, api.OK
	}
	return Never, api.OK
}

// Worth returns within which range the owner's covered value at the end of the day is.
func Worth(b Book, owner, day int) (Range, api.Errno) {
	if e := CheckBook(b); e != api.OK {
		return Range{}, e
	}
	w := open(b)
	if !w.isOwner(owner) || !w.isDay(day) {
		return Range{}, api.ErrRange
	}
	var sums []int
	for _, end := range w.ends(day) {
		sums = append(sums, end.worth(owner, day))
	}
	return span(sums)
}

// Days returns within which range of days the entry happens.
func Days(b Book, entry int) (Range, api.Errno) {
	if e := CheckBook(b); e != api.OK {
		return Range{}, e
	}
	if entry < 0 || entry >= len(b.Entries) {
		return Range{}, api.ErrRange
	}
	var days []int
	w := open(b)
	for t := range w.choices() {
		if w.holds(t) {
			days = append(days, t.Days[entry])
		}
	}
	return span(days)
}

// First returns the first entry that contradicts.
func First(b Book) (int, api.Errno) {
	if e := CheckBook(b); e != api.OK {
		return 0, e
	}
	w := open(b)
	for n := range w.Entries {
		if !w.upTo(n).hasTruth() {
			return n, api.OK
		}
	}
	return 0, api.ErrNone
}

// Leave returns the smallest set of entries that have to be left out.
func Leave(b Book) ([]int, api.Errno) {
	if e := CheckBook(b); e != api.OK {
		return nil, e
	}
	w := open(b)
	canLeave := func(list []int) bool { return w.without(list).hasTruth() }
	return lists.Shortest(len(w.Entries), canLeave), api.OK
}

// ProveTruth reports whether the book is valid, and the truth is one of it.
func ProveTruth(b Book, t Truth) bool {
	if CheckBook(b) != api.OK {
		return false
	}
	w := open(b)
	return w.fits(t) && w.holds(t)
}

// endsOfParcel returns the ends of a day, or the error of a call about a parcel on this day.
func endsOfParcel(b Book, parcel, day int) ([]states, api.Errno) {
	if e := CheckBook(b); e != api.OK {
		return nil, e
	}
	w := open(b)
	if !w.isNumber(parcel) || !w.isDay(day) {
		return nil, api.ErrRange
	}
	ends := w.ends(day)
	if len(ends) == 0 {
		return nil, api.ErrFail
	}
	return ends, api.OK
}

// span returns the range from the minimum to the maximum of what some truths say. Without a number there is no truth.
func span(numbers []int) (Range, api.Errno) {
	if len(numbers) == 0 {
		return Range{}, api.ErrFail
	}
	return Range{Lo: lists.Minimum(numbers...), Hi: slices.Max(numbers)}, api.OK
}
