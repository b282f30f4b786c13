package parcel_test

import (
	"fmt"
	"math"
	"slices"
	"testing"

	"hailstone/api"
	"hailstone/parcel"
)

// wide has ranges with the given sizes, one for each Sell, and the last two for the parcels.
func wide(sizes ...int) parcel.Book {
	b := parcel.Book{Last: 30, Owners: 2, Parcels: []parcel.Parcel{field(0, 10, 0, 0), field(1, 7, 0, 0)}}
	for i, size := range sizes {
		if left := len(sizes) - i; left <= 2 {
			b.Parcels[2-left].Sown = to(0, size-1)
			continue
		}
		b.Entries = append(b.Entries, sell(0, 0, 1, 31-size, 30))
	}
	return b
}

func TestCheckBookErrors(t *testing.T) {
	for _, x := range []struct {
		name   string
		change func(b *parcel.Book)
		want   api.Errno
	}{
		{"as it is", func(b *parcel.Book) {}, api.OK},
		{"4 owners", func(b *parcel.Book) { b.Owners = 4 }, api.OK},
		{"5 owners", func(b *parcel.Book) { b.Owners = 5 }, api.ErrLimit},
		{"very many owners", func(b *parcel.Book) { b.Owners = math.MaxInt }, api.ErrLimit},
		{"no owner", func(b *parcel.Book) { *b = parcel.Book{} }, api.ErrArg},
		{"one owner", func(b *parcel.Book) { *b = parcel.Book{Owners: 1} }, api.OK},
		{"owners below 0", func(b *parcel.Book) { b.Owners = -1 }, api.ErrArg},
		{"owners far below 0", func(b *parcel.Book) { b.Owners = math.MinInt }, api.ErrArg},
		{"owners below 0 and nothing else", func(b *parcel.Book) { *b = parcel.Book{Owners: -1} }, api.ErrArg},
		{"last 0", func(b *parcel.Book) { *b = parcel.Book{Owners: 1, Parcels: []parcel.Parcel{{}}} }, api.OK},
		{"last below 0", func(b *parcel.Book) { *b = parcel.Book{Owners: 1, Last: -1} }, api.ErrArg},
		{"last 30", func(b *parcel.Book) { b.Last = 30 }, api.OK},
		{"last 31", func(b *parcel.Book) { b.Last = 31 }, api.ErrArg},
		{"4 parcels", func(b *parcel.Book) { b.Parcels = append(b.Parcels, field(0, 0, 0, 0), field(0, 0, 0, 0)) }, api.OK},
		{"5 parcels", func(b *parcel.Book) { b.Parcels = make([]parcel.Parcel, 5) }, api.ErrLimit},
		{"6 entries", func(b *parcel.Book) { b.Entries = append(b.Entries, harvest(0, 9, 9), harvest(0, 9, 9)) }, api.OK},
		{"7 entries", func(b *parcel.Book) {
			b.Entries = append(b.Entries, harvest(0, 9, 9), harvest(0, 9, 9), harvest(0, 9, 9))
		}, api.ErrLimit},
		{"6 splits", func(b *parcel.Book) { b.Entries = slices.Repeat([]parcel.Entry{split(0, 1, 5, 5)}, 6) }, api.OK},
		{"7 splits", func(b *parcel.Book) { b.Entries = slices.Repeat([]parcel.Entry{split(0, 1, 5, 5)}, 7) }, api.ErrLimit},
		{"no parcels, no entries", func(b *parcel.Book) { b.Parcels, b.Entries = nil, nil }, api.OK},
		{"no parcels, an entry", func(b *parcel.Book) { b.Parcels, b.Entries = nil, []parcel.Entry{harvest(0, 0, 0)} }, api.ErrArg},
		{"no parcels, a split of its own one", func(b *parcel.Book) { b.Parcels, b.Entries = nil, []parcel.Entry{split(0, 1, 0, 0)} }, api.OK},

		{"owner below 0", func(b *parcel.Book) { b.Parcels[1].Owner = -1 }, api.ErrArg},
		{"last owner", func(b *parcel.Book) { b.Parcels[1].Owner = 2 }, api.OK},
		{"owner beyond", func(b *parcel.Book) { b.Parcels[1].Owner = 3 }, api.ErrArg},
		{"value 0", func(b *parcel.Book) { b.Parcels[1].Value = 0 }, api.OK},
		{"value below 0", func(b *parcel.Book) { b.Parcels[1].Value = -1 }, api.ErrArg},
		{"value 1000", func(b *parcel.Book) { b.Parcels[1].Value = 1000 }, api.OK},
		{"value 1001", func(b *parcel.Book) { b.Parcels[1].Value = 1001 }, api.ErrArg},
		{"sown to the last day", func(b *parcel.Book) { b.Parcels[1].Sown = to(0, 9) }, api.OK},
		{"sown after the last day", func(b *parcel.Book) { b.Parcels[1].Sown = to(0, 10) }, api.ErrArg},
		{"sown before the days", func(b *parcel.Book) { b.Parcels[1].Sown = to(-1, 0) }, api.ErrArg},
		{"sown, turned round", func(b *parcel.Book) { b.Parcels[1].Sown = to(4, 3) }, api.ErrArg},
		{"sown at the ends of numbers", func(b *parcel.Book) { b.Parcels[1].Sown = to(math.MinInt, math.MaxInt) }, api.ErrArg},
		{"sown at the ends of numbers, turned round", func(b *parcel.Book) { b.Parcels[1].Sown = to(math.MaxInt, math.MinInt) }, api.ErrArg},

		{"kind 4", func(b *parcel.Book) { b.Entries[3].Kind = 4 }, api.ErrArg},
		{"kind below 0", func(b *parcel.Book) { b.Entries[3].Kind = -1 }, api.ErrArg},
		{"day to the last one", func(b *parcel.Book) { b.Entries[0].Day = to(0, 9) }, api.OK},
		{"day after the last one", func(b *parcel.Book) { b.Entries[0].Day = to(0, 10) }, api.ErrArg},
		{"day before the first one", func(b *parcel.Book) { b.Entries[0].Day = to(-1, 9) }, api.ErrArg},
		{"day, turned round", func(b *parcel.Book) { b.Entries[0].Day = to(6, 4) }, api.ErrArg},
		{"day far away", func(b *parcel.Book) { b.Entries[0].Day = to(math.MinInt, math.MaxInt) }, api.ErrArg},
		{"last number of a parcel", func(b *parcel.Book) { b.Entries[0].Parcel = 2 }, api.OK},
		{"number of a parcel beyond", func(b *parcel.Book) { b.Entries[0].Parcel = 3 }, api.ErrArg},
		{"number of a parcel below 0", func(b *parcel.Book) { b.Entries[0].Parcel = -1 }, api.ErrArg},
		{"number of a parcel very large", func(b *parcel.Book) { b.Entries[0].Parcel = math.MaxInt }, api.ErrArg},
		{"split of its own parcel", func(b *parcel.Book) { b.Entries[1].Parcel = 2 }, api.OK},
		{"split beyond", func(b *parcel.Book) { b.Entries[1].Parcel = 3 }, api.ErrArg},
		{"harvest beyond", func(b *parcel.Book) { b.Entries[3].Parcel = 3 }, api.ErrArg},
		{"swap of one beyond", func(b *parcel.Book) { b.Entries[2].Parcel = 3 }, api.ErrArg},
		{"a number without its split", func(b *parcel.Book) { b.Entries[1] = harvest(0, 5, 5) }, api.ErrArg},

		{"from below 0", func(b *parcel.Book) { b.Entries[0].From = -1 }, api.ErrArg},
		{"from beyond", func(b *parcel.Book) { b.Entries[0].From = 3 }, api.ErrArg},
		{"from 2 to 0", func(b *parcel.Book) { b.Entries[0].From, b.Entries[0].To = 2, 0 }, api.OK},
		{"to below 0", func(b *parcel.Book) { b.Entries[0].To = -1 }, api.ErrArg},
		{"to beyond", func(b *parcel.Book) { b.Entries[0].To = 3 }, api.ErrArg},
		{"from is to", func(b *parcel.Book) { b.Entries[0].To = 0 }, api.ErrArg},
		{"sell with a part", func(b *parcel.Book) { b.Entries[0].Part = 1 }, api.ErrArg},
		{"sell with another", func(b *parcel.Book) { b.Entries[0].Other = 1 }, api.ErrArg},

		{"part 0", func(b *parcel.Book) { b.Entries[1].Part = 0 }, api.ErrArg},
		{"part below 0", func(b *parcel.Book) { b.Entries[1].Part = -1 }, api.ErrArg},
		{"part 1", func(b *parcel.Book) { b.Entries[1].Part = 1 }, api.OK},
		{"part 1000", func(b *parcel.Book) { b.Entries[1].Part = 1000 }, api.OK},
		{"part 1001", func(b *parcel.Book) { b.Entries[1].Part = 1001 }, api.ErrArg},
		{"split with another", func(b *parcel.Book) { b.Entries[1].Other = 1 }, api.ErrArg},
		{"split with from", func(b *parcel.Book) { b.Entries[1].From = 1 }, api.ErrArg},
		{"split with to", func(b *parcel.Book) { b.Entries[1].To = 1 }, api.ErrArg},

		{"other is the parcel", func(b *parcel.Book) { b.Entries[2].Other = 2 }, api.ErrArg},
		{"other beyond", func(b *parcel.Book) { b.Entries[2].Other = 3 }, api.ErrArg},
		{"other below 0", func(b *parcel.Book) { b.Entries[2].Other = -1 }, api.ErrArg},
		{"other 0", func(b *parcel.Book) { b.Entries[2].Other = 0 }, api.OK},
		{"swap with a part", func(b *parcel.Book) { b.Entries[2].Part = 1 }, api.ErrArg},
		{"swap with from", func(b *parcel.Book) { b.Entries[2].From = 1 }, api.ErrArg},
		{"swap with to", func(b *parcel.Book) { b.Entries[2].To = 1 }, api.ErrArg},

		{"harvest with another", func(b *parcel.Book) { b.Entries[3].Other = 2 }, api.ErrArg},
		{"harvest with from", func(b *parcel.Book) { b.Entries[3].From = 1 }, api.ErrArg},
		{"harvest with to", func(b *parcel.Book) { b.Entries[3].To = 1 }, api.ErrArg},
		{"harvest with a part", func(b *parcel.Book) { b.Entries[3].Part = -1 }, api.ErrArg},

		{"10 times 10 times 10", func(b *parcel.Book) { *b = wide(10, 10, 10, 1, 1) }, api.OK},
		{"10 times 10 times 10, sown too", func(b *parcel.Book) { *b = wide(10, 10, 10) }, api.OK},
		{"7 times 11 times 13", func(b *parcel.Book) { *b = wide(7, 11, 13, 1, 1) }, api.ErrLimit},
		{"7 times 11 times 13, sown too", func(b *parcel.Book) { *b = wide(7, 11, 13) }, api.ErrLimit},
		{"31 times 31, sown only", func(b *parcel.Book) { *b = wide(31, 31) }, api.OK},
		{"31 times 31 times 2", func(b *parcel.Book) { *b = wide(2, 31, 31) }, api.ErrLimit},
		{"all as wide as can be", func(b *parcel.Book) {
			*b = wide(31, 31, 31, 31, 31, 31, 31, 31)
			b.Parcels = append(b.Parcels, field(0, 0, 0, 30), field(0, 0, 0, 30))
		}, api.ErrLimit},

		{"5 owners, and a bad last day", func(b *parcel.Book) { b.Owners, b.Last = 5, -1 }, api.ErrLimit},
		{"7 entries, and no owner", func(b *parcel.Book) { b.Owners, b.Entries = 0, make([]parcel.Entry, 7) }, api.ErrLimit},
		{"5 parcels, and a bad entry", func(b *parcel.Book) { b.Parcels, b.Entries[0].Kind = make([]parcel.Parcel, 5), 9 }, api.ErrLimit},
		{"a bad last entry, and too wide", func(b *parcel.Book) { *b = wide(31, 31, 31); b.Entries[0].Part = 1 }, api.ErrArg},
		{"a bad last parcel, and too wide", func(b *parcel.Book) { *b = wide(31, 31, 31); b.Parcels[1].Value = -1 }, api.ErrArg},
	} {
		b := chapter()
		x.change(&b)
		if e := parcel.CheckBook(b); e != x.want {
			t.Errorf("%s: CheckBook of %v: %v, not %v", x.name, b, e, x.want)
		}
		if x.want != api.OK {
			wantAll(t, x.name, b, x.want)
		}
	}
}

// wantAll checks that each call returns the error of the book, whatever its other arguments are, and nothing else.
func wantAll(t *testing.T, name string, b parcel.Book, want api.Errno) {
	t.Helper()
	for _, n := range ints(0, -1, 99) {
		right := parcel.Truth{Days: make([]int, len(b.Entries)), Sown: make([]int, len(b.Parcels))}
		for _, tr := range []parcel.Truth{right, {}} {
			if l, e := parcel.Play(b, tr, n); len(l) != 0 || e != want {
				t.Errorf("%s: Play: %v, %v", name, l, e)
			}
			if parcel.ProveTruth(b, tr) {
				t.Errorf("%s: ProveTruth", name)
			}
		}
		if l, e := parcel.Owners(b, n, n); len(l) != 0 || e != want {
			t.Errorf("%s: Owners: %v, %v", name, l, e)
		}
		if v, e := parcel.Covered(b, n, n); v != 0 || e != want {
			t.Errorf("%s: Covered: %v, %v", name, v, e)
		}
		if v, e := parcel.Worth(b, n, n); v != to(0, 0) || e != want {
			t.Errorf("%s: Worth: %v, %v", name, v, e)
		}
		if v, e := parcel.Days(b, n); v != to(0, 0) || e != want {
			t.Errorf("%s: Days: %v, %v", name, v, e)
		}
	}
	if v, e := parcel.First(b); v != 0 || e != want {
		t.Errorf("%s: First: %v, %v", name, v, e)
	}
	if l, e := parcel.Leave(b); len(l) != 0 || e != want {
		t.Errorf("%s: Leave: %v, %v", name, l, e)
	}
}

func TestPlayErrors(t *testing.T) {
	right := ints(4, 5, 6, 8)
	for _, x := range []struct {
		name string
		b    parcel.Book
		t    parcel.Truth
		day  int
		want api.Errno
	}{
		{"as it is", chapter(), truth(right, 2, 0), 9, api.OK},
		{"the first day", chapter(), truth(right, 2, 0), 0, api.OK},
		{"a day too few", chapter(), truth(right[:3], 2, 0), 0, api.ErrRange},
		{"a day too many", chapter(), truth(append(slices.Clone(right), 8), 2, 0), 0, api.ErrRange},
		{"no days", chapter(), truth(nil, 2, 0), 0, api.ErrRange},
		{"no days of sowing", chapter(), truth(right), 0, api.ErrRange},
		{"a day of sowing too few", chapter(), truth(right, 2), 0, api.ErrRange},
		{"a day of sowing too many", chapter(), truth(right, 2, 0, 0), 0, api.ErrRange},
		{"a day before its range", chapter(), truth(ints(3, 5, 6, 8), 2, 0), 0, api.ErrRange},
		{"a day after its range", chapter(), truth(ints(7, 5, 6, 8), 2, 0), 0, api.ErrRange},
		{"the last day after its range", chapter(), truth(ints(4, 5, 6, 9), 2, 0), 0, api.ErrRange},
		{"sown before the range", chapter(), truth(right, 1, 0), 0, api.ErrRange},
		{"sown after the range", chapter(), truth(right, 2, 1), 0, api.ErrRange},
		{"very large numbers", chapter(), truth(ints(math.MaxInt, 5, 6, 8), 2, math.MinInt), 0, api.ErrRange},
		{"the day below 0", chapter(), truth(right, 2, 0), -1, api.ErrRange},
		{"the day after the last one", chapter(), truth(right, 2, 0), 10, api.ErrRange},
		{"the day very far away", chapter(), truth(right, 2, 0), math.MinInt, api.ErrRange},
		{"no truth", untrue(), truth(ints(1), 0, 0), 0, api.ErrFalse},
		{"no truth, on the last day", untrue(), truth(ints(1), 0, 0), 5, api.ErrFalse},
		{"no truth, and a day too few", untrue(), truth(nil, 0, 0), 0, api.ErrRange},
		{"no truth, and no such day", untrue(), truth(ints(1), 0, 0), 6, api.ErrRange},
		{"an empty book", parcel.Book{Owners: 1}, truth(nil), 0, api.OK},
		{"an empty book, with empty lists", parcel.Book{Owners: 1, Parcels: []parcel.Parcel{}, Entries: []parcel.Entry{}}, truth(ints(), ints()...), 0, api.OK},
		{"an empty book, and a day", parcel.Book{Owners: 1}, truth(ints(0)), 0, api.ErrRange},
	} {
		l, e := parcel.Play(x.b, x.t, x.day)
		if e != x.want || e != api.OK && len(l) != 0 || e == api.OK && len(l) != numbers(x.b) {
			t.Errorf("%s: Play: %v, %v, not %v", x.name, l, e, x.want)
		}
		fits := x.want == api.OK
		if x.day >= 0 && x.day <= x.b.Last && parcel.ProveTruth(x.b, x.t) != fits {
			t.Errorf("%s: ProveTruth is not %v", x.name, fits)
		}
	}
}

func TestErrorsOfOtherCalls(t *testing.T) {
	for _, x := range []struct {
		b                  parcel.Book
		number, day        int
		ofParcel, ofHolder api.Errno
	}{
		{chapter(), 2, 9, api.OK, api.OK},
		{chapter(), 0, 0, api.OK, api.OK},
		{chapter(), 3, 0, api.ErrRange, api.ErrRange},
		{chapter(), -1, 0, api.ErrRange, api.ErrRange},
		{chapter(), math.MaxInt, 0, api.ErrRange, api.ErrRange},
		{chapter(), 0, 10, api.ErrRange, api.ErrRange},
		{chapter(), 0, -1, api.ErrRange, api.ErrRange},
		{chapter(), 0, math.MinInt, api.ErrRange, api.ErrRange},
		{small(split(0, 1, 1, 1)), 2, 0, api.OK, api.ErrRange},
		{parcel.Book{Owners: 1}, 0, 0, api.ErrRange, api.OK},
		{untrue(), 0, 0, api.ErrFail, api.ErrFail},
		{untrue(), 1, 5, api.ErrFail, api.ErrFail},
		{untrue(), 2, 0, api.ErrRange, api.ErrRange},
		{untrue(), 0, 6, api.ErrRange, api.ErrRange},
	} {
		name := fmt.Sprint(x.b, x.number, x.day)
		if l, e := parcel.Owners(x.b, x.number, x.day); e != x.ofParcel || e != api.OK && len(l) != 0 {
			t.Errorf("Owners of %s: %v, %v", name, l, e)
		}
		if v, e := parcel.Covered(x.b, x.number, x.day); e != x.ofParcel || e != api.OK && v != 0 {
			t.Errorf("Covered of %s: %v, %v", name, v, e)
		}
		if v, e := parcel.Worth(x.b, x.number, x.day); e != x.ofHolder || e != api.OK && v != to(0, 0) {
			t.Errorf("Worth of %s: %v, %v", name, v, e)
		}
	}
	for _, x := range []struct {
		b     parcel.Book
		entry int
		want  api.Errno
	}{
		{chapter(), 3, api.OK},
		{chapter(), 4, api.ErrRange},
		{chapter(), -1, api.ErrRange},
		{chapter(), math.MaxInt, api.ErrRange},
		{small(), 0, api.ErrRange},
		{untrue(), 0, api.ErrFail},
		{untrue(), 1, api.ErrRange},
	} {
		if v, e := parcel.Days(x.b, x.entry); e != x.want || e != api.OK && v != to(0, 0) {
			t.Errorf("Days of %v, %d: %v, %v", x.b, x.entry, v, e)
		}
	}
	for _, b := range []parcel.Book{chapter(), small(), {Owners: 1}} {
		if n, e := parcel.First(b); n != 0 || e != api.ErrNone {
			t.Errorf("First of %v: %d, %v", b, n, e)
		}
	}
}

// TestAnyArguments calls everything with numbers of any size: nothing panics, and all calls agree on the error of the book (P1, R1).
func TestAnyArguments(t *testing.T) {
	odd := ints(math.MinInt, math.MinInt+1, -1, 0, 1, 2, 3, 4, 5, 30, 31, 1000, 1001, math.MaxInt-1, math.MaxInt)
	places := []func(b *parcel.Book) *int{
		func(b *parcel.Book) *int { return &b.Last },
		func(b *parcel.Book) *int { return &b.Owners },
		func(b *parcel.Book) *int { return &b.Parcels[0].Owner },
		func(b *parcel.Book) *int { return &b.Parcels[1].Value },
		func(b *parcel.Book) *int { return &b.Parcels[1].Sown.Lo },
		func(b *parcel.Book) *int { return &b.Parcels[0].Sown.Hi },
	}
	for i := range 4 {
		places = append(places,
			func(b *parcel.Book) *int { return &b.Entries[i].Kind },
			func(b *parcel.Book) *int { return &b.Entries[i].Parcel },
			func(b *parcel.Book) *int { return &b.Entries[i].Other },
			func(b *parcel.Book) *int { return &b.Entries[i].From },
			func(b *parcel.Book) *int { return &b.Entries[i].To },
			func(b *parcel.Book) *int { return &b.Entries[i].Part },
			func(b *parcel.Book) *int { return &b.Entries[i].Day.Lo },
			func(b *parcel.Book) *int { return &b.Entries[i].Day.Hi },
		)
	}
	for _, at := range places {
		for _, n := range odd {
			b := chapter()
			*at(&b) = n
			want := checked(b)
			if e := parcel.CheckBook(b); e != want {
				t.Errorf("CheckBook of %v: %v, not %v", b, e, want)
			}
			if want != api.OK {
				wantAll(t, fmt.Sprint(b), b, want)
			}
			for _, m := range odd {
				parcel.Play(b, truth(ints(m, 5, 6, n), m, n), m)
				parcel.ProveTruth(b, truth(ints(m, n)))
				parcel.Owners(b, m, n)
				parcel.Covered(b, n, m)
				parcel.Worth(b, m, n)
				parcel.Days(b, m)
			}
		}
	}
}

// checked is the error of a book, by a table of the fields that each kind has.
func checked(b parcel.Book) api.Errno {
	if b.Owners > 4 || len(b.Parcels) > 4 || len(b.Entries) > 6 {
		return api.ErrLimit
	}
	bad := b.Last < 0 || b.Last > 30 || b.Owners < 1
	ranges := []parcel.Range{}
	for _, p := range b.Parcels {
		bad = bad || p.Owner < 0 || p.Owner >= b.Owners || p.Value < 0 || p.Value > 1000
		ranges = append(ranges, p.Sown)
	}
	n := numbers(b)
	for _, e := range b.Entries {
		ranges = append(ranges, e.Day)
		bad = bad || e.Kind < 0 || e.Kind > 3 || e.Parcel < 0 || e.Parcel >= n
		if e.Kind == parcel.Sell {
			bad = bad || e.From == e.To || min(e.From, e.To) < 0 || max(e.From, e.To) >= b.Owners
		} else {
			bad = bad || e.From != 0 || e.To != 0
		}
		if e.Kind == parcel.Split {
			bad = bad || e.Part < 1 || e.Part > 1000
		} else {
			bad = bad || e.Part != 0
		}
		if e.Kind == parcel.Swap {
			bad = bad || e.Other < 0 || e.Other >= n || e.Other == e.Parcel
		} else {
			bad = bad || e.Other != 0
		}
	}
	product := 1
	for _, r := range ranges {
		if bad = bad || r.Lo < 0 || r.Hi < r.Lo || r.Hi > b.Last; bad {
			return api.ErrArg
		}
		product *= r.Hi - r.Lo + 1
	}
	switch {
	case bad:
		return api.ErrArg
	case product > 1000:
		return api.ErrLimit
	}
	return api.OK
}
