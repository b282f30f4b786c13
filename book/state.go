package book

import (
	"slices"
	"strconv"
	"strings"

	"hailstone/api"
	"hailstone/call"
	"hailstone/lists"
	"hailstone/parcel"
	"hailstone/tariff"
	"hailstone/zone"
)

func atFirst() State {
	return State{
		Book: parcel.Book{Last: api.MaxParcelLast, Owners: api.MaxParcelOwners},
		Tariff: tariff.Tariff{
			Whole: true, Least: 8, Weeks: []int{0, 10}, Counts: []int{0, 50, 100},
			Rates: [][][]int{{{0, 40, 80}, {0, 25, 100}}},
		},
		Members: []Member{{Sum: 100, Most: 9999}},
		Zone:    zone.Zone{First: 1},
	}
}

// rule is the one of the zone.
func rule() zone.Rule {
	return zone.Rule{Classes: 4, Good: 40, Bad: 120, Rest: 1, Fewest: 5, Price: []int{10, 20, 40, 80}}
}

// clone returns a state in which everything that lines change is in memory of its own.
func (s State) clone() State {
	s.Book.Parcels = slices.Clone(s.Book.Parcels)
	s.Book.Entries = slices.Clone(s.Book.Entries)
	var weeks [][]int
	for _, week := range s.Tariff.Rates[0] {
		weeks = append(weeks, slices.Clone(week))
	}
	s.Tariff.Rates = [][][]int{weeks}
	s.Losses = slices.Clone(s.Losses)
	s.Members = slices.Clone(s.Members)
	s.Zone.Years = slices.Clone(s.Zone.Years)
	return s
}

// mustStand refuses what makes a state that does not stand.
func (s State) mustStand() {
	must(api.ErrLimit, parcel.CheckBook(s.Book) == api.OK)
	must(api.ErrFail, s.hasTruth())
	must(api.ErrShort, lists.Each(s.Losses, s.isNarrow))
}

// hasTruth reports whether the book, which must be valid, does not contradict itself.
func (s State) hasTruth() bool {
	_, e := parcel.Worth(s.Book, 0, 0)
	return e == api.OK
}

func (s State) isNarrow(l Loss) bool {
	pence := s.pence(l)
	return pence.Hi-pence.Lo <= api.MaxCallWide
}

// pence returns the pence of the loss. The book must have a truth.
func (s State) pence(l Loss) call.Range {
	worth, _ := parcel.Worth(s.Book, l.Owner, l.Day)
	return call.Range{Lo: s.paid(l, worth.Lo).Lo, Hi: s.paid(l, worth.Hi).Hi}
}

// paid returns what is paid of the loss on a value of so much.
func (s State) paid(l Loss, value int) tariff.Range {
	claim := tariff.Claim{Value: value, Day: tariff.Range{Lo: l.Day, Hi: l.Day}, Count: l.Count}
	bounds, _ := tariff.Bounds([]tariff.Tariff{s.Tariff}, claim)
	return bounds
}

// society returns that of a state that stands.
func (s State) society() call.Society {
	society := call.Society{Treaty: s.Treaty, Reserve: s.Reserve}
	class := 1 + s.greatestClass()
	for _, m := range s.Members {
		society.Members = append(society.Members, call.Member{Sum: m.Sum, Class: class, Most: m.Most})
	}
	for _, l := range s.Losses {
		society.Losses = append(society.Losses, s.pence(l))
	}
	return society
}

// greatestClass is the greatest one that the zone can have after its last year.
func (s State) greatestClass() int {
	years := len(s.Zone.Years)
	if years == 0 {
		return s.Zone.First
	}
	classes, _ := zone.Reach(rule(), s.Zone, years-1)
	return slices.Max(classes)
}

// report returns that of a state that stands, so that only a rate can be missing.
func (s State) report() string {
	var text strings.Builder
	add := func(word, what string) { text.WriteString(word + " " + what + "\n") }
	society := s.society()
	need, _ := call.Needs(society)
	add("need", written(need))
	rate, e := call.Rate(society)
	if e == api.OK {
		add("rate", strconv.Itoa(rate))
	} else {
		add("rate", "-")
	}
	price, _ := zone.Next(rule(), s.Zone)
	add("price", written(call.Range(price)))
	for _, pence := range society.Losses {
		add("loss", written(pence))
	}
	bounds, _ := call.Bounds(society)
	for _, pence := range bounds {
		add("member", written(pence))
	}
	return text.String()
}

func written(r call.Range) string { return strconv.Itoa(r.Lo) + ".." + strconv.Itoa(r.Hi) }
