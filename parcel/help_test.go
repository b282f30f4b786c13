package parcel_test

import (
	"math/rand/v2"
	"slices"
	"testing"

	"hailstone/api"
	"hailstone/parcel"
)

func ints(l ...int) []int { return l }

func to(low, high int) parcel.Range { return parcel.Range{Lo: low, Hi: high} }

func field(owner, value, low, high int) parcel.Parcel {
	return parcel.Parcel{Owner: owner, Value: value, Sown: to(low, high)}
}

func sell(n, from, into, low, high int) parcel.Entry {
	return parcel.Entry{Kind: parcel.Sell, Parcel: n, From: from, To: into, Day: to(low, high)}
}

func split(n, part, low, high int) parcel.Entry {
	return parcel.Entry{Kind: parcel.Split, Parcel: n, Part: part, Day: to(low, high)}
}

func swap(n, other, low, high int) parcel.Entry {
	return parcel.Entry{Kind: parcel.Swap, Parcel: n, Other: other, Day: to(low, high)}
}

func harvest(n, low, high int) parcel.Entry {
	return parcel.Entry{Kind: parcel.Harvest, Parcel: n, Day: to(low, high)}
}

func truth(days []int, sown ...int) parcel.Truth { return parcel.Truth{Days: days, Sown: sown} }

func held(covered bool, owner, value int) parcel.Holding {
	return parcel.Holding{There: true, Covered: covered, Owner: owner, Value: value}
}

// chapter is the book of the chapter's examples, with further entries.
func chapter(more ...parcel.Entry) parcel.Book {
	return parcel.Book{
		Last: 9, Owners: 3,
		Parcels: []parcel.Parcel{field(0, 100, 2, 3), field(1, 60, 0, 0)},
		Entries: append([]parcel.Entry{sell(0, 0, 2, 4, 6), split(0, 30, 5, 5), swap(2, 1, 6, 7), harvest(1, 8, 8)}, more...),
	}
}

// small has two parcels of two owners, sown on the day 0.
func small(entries ...parcel.Entry) parcel.Book {
	return parcel.Book{Last: 5, Owners: 2, Parcels: []parcel.Parcel{field(0, 10, 0, 0), field(1, 7, 0, 0)}, Entries: entries}
}

// untrue is a book that contradicts itself.
func untrue() parcel.Book { return small(sell(0, 1, 0, 1, 1)) }

func clone(b parcel.Book) parcel.Book {
	b.Parcels, b.Entries = slices.Clone(b.Parcels), slices.Clone(b.Entries)
	return b
}

// numbers is how many numbers of parcels the book has.
func numbers(b parcel.Book) int {
	n := len(b.Parcels)
	for _, e := range b.Entries {
		if e.Kind == parcel.Split {
			n++
		}
	}
	return n
}

// choices are all choices of days, possible or not. They are counted like the digits of a number.
func choices(b parcel.Book) []parcel.Truth {
	var ranges []parcel.Range
	for _, e := range b.Entries {
		ranges = append(ranges, e.Day)
	}
	for _, p := range b.Parcels {
		ranges = append(ranges, p.Sown)
	}
	total := 1
	for _, r := range ranges {
		total *= r.Hi - r.Lo + 1
	}
	var list []parcel.Truth
	for code := range total {
		days := make([]int, len(ranges))
		for i, r := range ranges {
			size := r.Hi - r.Lo + 1
			days[i] = r.Lo + code%size
			code /= size
		}
		list = append(list, parcel.Truth{Days: days[:len(b.Entries):len(b.Entries)], Sown: days[len(b.Entries):]})
	}
	return list
}

// model plays the book day by day, in another way than the package: each parcel is a row of a map, and an entry is looked for on each day.
type model struct {
	owner, value, sown map[int]int
	harvested          map[int]bool
}

// replay returns the holdings at the end of the day, and whether all entries but those that are skipped are possible.
func replay(b parcel.Book, t parcel.Truth, day int, skipped ...int) ([]parcel.Holding, bool) {
	m := model{map[int]int{}, map[int]int{}, map[int]int{}, map[int]bool{}}
	for i, p := range b.Parcels {
		m.owner[i], m.value[i], m.sown[i] = p.Owner, p.Value, t.Sown[i]
	}
	var end []parcel.Holding
	for today := 0; today <= b.Last; today++ {
		made := len(b.Parcels) - 1
		for i, e := range b.Entries {
			if e.Kind == parcel.Split {
				made++
			}
			if t.Days[i] == today && !slices.Contains(skipped, i) && !m.happen(e, today, made) {
				return nil, false
			}
		}
		if today == day {
			end = m.holdings(numbers(b), day)
		}
	}
	return end, true
}

func (m model) happen(e parcel.Entry, today, made int) bool {
	owner, there := m.owner[e.Parcel]
	if !there || m.harvested[e.Parcel] {
		return false
	}
	switch e.Kind {
	case parcel.Sell:
		m.owner[e.Parcel] = e.To
		return owner == e.From
	case parcel.Split:
		m.owner[made], m.sown[made], m.value[made] = owner, m.sown[e.Parcel], e.Part
		m.value[e.Parcel] -= e.Part
		return m.value[e.Parcel] > 0
	case parcel.Swap:
		other, exists := m.owner[e.Other]
		m.owner[e.Parcel], m.owner[e.Other] = other, owner
		return exists && !m.harvested[e.Other] && other != owner
	}
	m.harvested[e.Parcel] = true
	return m.sown[e.Parcel] <= today
}

func (m model) holdings(n, day int) []parcel.Holding {
	list := make([]parcel.Holding, n)
	for i := range list {
		if owner, there := m.owner[i]; there {
			list[i] = held(m.sown[i] <= day && !m.harvested[i], owner, m.value[i])
		}
	}
	return list
}

// truths are those of the book, without the skipped entries.
func truths(b parcel.Book, skipped ...int) []parcel.Truth {
	var list []parcel.Truth
	for _, t := range choices(b) {
		if _, ok := replay(b, t, 0, skipped...); ok {
			list = append(list, t)
		}
	}
	return list
}

// subsets are all increasing lists of numbers below n, the shorter ones first, those of one length in lexicographic order.
func subsets(n int) [][]int {
	var all [][]int
	for mask := range 1 << n {
		var l []int
		for i := range n {
			if mask>>i&1 == 1 {
				l = append(l, i)
			}
		}
		all = append(all, l)
	}
	slices.SortFunc(all, func(a, b []int) int {
		if len(a) != len(b) {
			return len(a) - len(b)
		}
		return slices.Compare(a, b)
	})
	return all
}

// drop removes entries from the book, and keeps the meaning of all numbers of parcels. It returns false if another entry needs the parcel of a Split that is removed.
func drop(b parcel.Book, skipped ...int) (parcel.Book, bool) {
	old, next := len(b.Parcels), len(b.Parcels)
	renamed := map[int]int{}
	for i := range b.Parcels {
		renamed[i] = i
	}
	var rest []parcel.Entry
	for i, e := range b.Entries {
		left := slices.Contains(skipped, i)
		if e.Kind == parcel.Split {
			if !left {
				renamed[old] = next
				next++
			}
			old++
		}
		if !left {
			rest = append(rest, e)
		}
	}
	for i, e := range rest {
		n, ok := renamed[e.Parcel]
		if !ok {
			return b, false
		}
		rest[i].Parcel = n
		if e.Kind == parcel.Swap {
			if rest[i].Other, ok = renamed[e.Other]; !ok {
				return b, false
			}
		}
	}
	b.Entries = rest
	return b, true
}

// possible asks the package whether the book has a truth without the skipped entries.
func possible(t *testing.T, b parcel.Book, skipped ...int) bool {
	t.Helper()
	b, ok := drop(b, skipped...)
	if !ok {
		return false
	}
	l, e := parcel.Leave(b)
	if e != api.OK {
		t.Errorf("Leave of %v: %v", b, e)
	}
	return len(l) == 0
}

// books are valid books made by a fixed rule: entries that mostly fit what happened so far, with ranges around their days.
func books(seed uint64, count int) []parcel.Book {
	r := rand.New(rand.NewPCG(seed, 7))
	var list []parcel.Book
	for len(list) < count {
		if b := someBook(r); parcel.CheckBook(b) == api.OK && len(choices(b)) <= 120 {
			list = append(list, b)
		}
	}
	return list
}

func someRange(r *rand.Rand, day, last int) parcel.Range {
	width := []int{0, 0, 0, 1, 1, 2, 3}
	return to(max(0, day-width[r.IntN(len(width))]), min(last, day+width[r.IntN(len(width))]))
}

func someBook(r *rand.Rand) parcel.Book {
	b := parcel.Book{Last: r.IntN(7), Owners: 2 + r.IntN(2)}
	for range r.IntN(4) {
		b.Parcels = append(b.Parcels, parcel.Parcel{Owner: r.IntN(b.Owners), Value: r.IntN(40), Sown: someRange(r, r.IntN(2)*r.IntN(b.Last+1), b.Last)})
	}
	owner := []int{}
	for _, p := range b.Parcels {
		owner = append(owner, p.Owner)
	}
	day := 0
	for range r.IntN(6) {
		day = min(b.Last, day+r.IntN(3))
		if len(owner) == 0 {
			break
		}
		n := r.IntN(len(owner))
		e := parcel.Entry{Kind: r.IntN(4), Parcel: n, Day: someRange(r, day, b.Last)}
		switch e.Kind {
		case parcel.Sell:
			e.From = owner[n]
			if r.IntN(6) == 0 {
				e.From = r.IntN(b.Owners)
			}
			e.To = (e.From + 1 + r.IntN(b.Owners-1)) % b.Owners
			owner[n] = e.To
		case parcel.Split:
			e.Part = 1 + r.IntN(12)
			owner = append(owner, owner[n])
		case parcel.Swap:
			e.Other = r.IntN(len(owner))
			owner[n], owner[e.Other] = owner[e.Other], owner[n]
		}
		b.Entries = append(b.Entries, e)
	}
	if r.IntN(4) == 0 {
		slices.Reverse(b.Entries)
	}
	return b
}

// within reports whether the first range is a part of the second one.
func within(a, b parcel.Range) bool { return a.Lo >= b.Lo && a.Hi <= b.Hi }

// subset reports whether all elements of a are in b.
func subset(a, b []int) bool {
	return !slices.ContainsFunc(a, func(x int) bool { return !slices.Contains(b, x) })
}
