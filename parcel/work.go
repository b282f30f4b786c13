package parcel

import (
	"cmp"
	"iter"
	"slices"

	"hailstone/api"
	"hailstone/lists"
)

// work is a book at work. It must not have more entries than MaxParcelEntries.
type work struct {
	Book
	numbers int                        // how many numbers of parcels there are
	makes   [api.MaxParcelEntries]int  // which number the parcel of each Split has
	out     [api.MaxParcelEntries]bool // which entries are left out
}

// open numbers the parcels, also those of a Split that never happens.
func open(b Book) work {
	w := work{Book: b, numbers: len(b.Parcels)}
	for i, e := range b.Entries {
		if e.Kind == Split {
			w.makes[i] = w.numbers
			w.numbers++
		}
	}
	return w
}

// without leaves out the entries of the list.
func (w work) without(list []int) work {
	for _, i := range list {
		w.out[i] = true
	}
	return w
}

// upTo leaves out all entries after the given one.
func (w work) upTo(last int) work {
	for i := range w.Entries {
		w.out[i] = i > last
	}
	return w
}

// ranges returns the ranges Day of all entries, and then the ranges Sown of all parcels. An entry that is left out has a single day, which nothing depends on.
func (w work) ranges() []lists.Range {
	var list []lists.Range
	for i, e := range w.Entries {
		if w.out[i] {
			e.Day.Hi = e.Day.Lo
		}
		list = append(list, lists.Range(e.Day))
	}
	for _, p := range w.Parcels {
		list = append(list, lists.Range(p.Sown))
	}
	return list
}

// choices yields every choice of days, whether the entries are possible on them or not. The lists of a choice are written over by the next one.
func (w work) choices() iter.Seq[Truth] {
	return func(yield func(Truth) bool) {
		entries := len(w.Entries)
		for days := range lists.Choices(w.ranges()) {
			if !yield(Truth{Days: days[:entries], Sown: days[entries:]}) {
				return
			}
		}
	}
}

// event is an entry that happens on a day, and the number of the parcel that it makes if it is a Split.
type event struct {
	Entry
	on, makes int
}

// order returns the entries that are not left out, in the order in which they happen.
func (w work) order(days []int) []event {
	events := make([]event, 0, len(w.Entries))
	for i, e := range w.Entries {
		if !w.out[i] {
			events = append(events, event{Entry: e, on: days[i], makes: w.makes[i]})
		}
	}
	slices.SortStableFunc(events, func(a, b event) int { return cmp.Compare(a.on, b.on) })
	return events
}

// play returns the states at the end of the day, if all entries, also those of later days, are possible.
func (w work) play(t Truth, day int) (end states, possible bool) {
	now := w.atFirst(t.Sown)
	copy(end[:], now[:])
	for _, e := range w.order(t.Days) {
		if !kindOf(e.Kind).happen(&now, e) {
			return states{}, false
		}
		if e.on <= day {
			copy(end[:], now[:])
		}
	}
	return end, true
}

func (w work) atFirst(sown []int) states {
	var s states
	for i, p := range w.Parcels {
		s[i] = plot{tenure: tenure{owner: p.Owner, value: p.Value}, there: true, sown: sown[i]}
	}
	return s
}

func (w work) holds(t Truth) bool {
	_, possible := w.play(t, w.Last)
	return possible
}

func (w work) hasTruth() bool {
	for t := range w.choices() {
		if w.holds(t) {
			return true
		}
	}
	return false
}

// ends returns the states at the end of the day in all truths, each of them once.
func (w work) ends(day int) []states {
	var list []states
	seen := map[states]bool{}
	for t := range w.choices() {
		end, possible := w.play(t, day)
		if possible && !seen[end] {
			seen[end] = true
			list = append(list, end)
		}
	}
	return list
}
