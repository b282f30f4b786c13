package parcel_test

import (
	"fmt"
	"slices"
	"testing"

	"hailstone/api"
	"hailstone/parcel"
)

func TestKinds(t *testing.T) {
	if l := ints(parcel.Sell, parcel.Split, parcel.Swap, parcel.Harvest); !slices.Equal(l, ints(0, 1, 2, 3)) {
		t.Errorf("the kinds of entries: %v", l)
	}
	if l := ints(parcel.Always, parcel.Never, parcel.Perhaps); !slices.Equal(l, ints(1, 2, 3)) {
		t.Errorf("in which truths: %v", l)
	}
}

func TestExamples(t *testing.T) {
	b := chapter()
	for _, x := range []struct {
		n, day int
		want   []int
	}{{0, 4, ints(0, 2)}, {0, 6, ints(2)}, {2, 5, ints(0, 2)}, {2, 9, ints(1)}} {
		if l, e := parcel.Owners(b, x.n, x.day); !slices.Equal(l, x.want) || e != api.OK {
			t.Errorf("Owners of %d on %d: %v, %v", x.n, x.day, l, e)
		}
	}
	for _, x := range []struct{ n, day, want int }{{0, 2, parcel.Perhaps}, {0, 3, parcel.Always}, {1, 8, parcel.Never}, {2, 4, parcel.Never}} {
		if v, e := parcel.Covered(b, x.n, x.day); v != x.want || e != api.OK {
			t.Errorf("Covered of %d on %d: %d, %v", x.n, x.day, v, e)
		}
	}
	for _, x := range []struct {
		owner, day int
		want       parcel.Range
	}{{0, 5, to(0, 100)}, {1, 7, to(30, 30)}, {2, 9, to(70, 70)}} {
		if v, e := parcel.Worth(b, x.owner, x.day); v != x.want || e != api.OK {
			t.Errorf("Worth of %d on %d: %v, %v", x.owner, x.day, v, e)
		}
	}
	for entry, want := range []parcel.Range{to(4, 6), to(5, 5), to(6, 7), to(8, 8)} {
		if v, e := parcel.Days(b, entry); v != want || e != api.OK {
			t.Errorf("Days of %d: %v, %v", entry, v, e)
		}
	}
	wrong := chapter(harvest(0, 1, 1))
	if n, e := parcel.First(wrong); n != 4 || e != api.OK {
		t.Errorf("First: %d, %v", n, e)
	}
	if l, e := parcel.Leave(wrong); !slices.Equal(l, ints(4)) || e != api.OK {
		t.Errorf("Leave: %v, %v", l, e)
	}
	if n, e := parcel.First(b); n != 0 || e != api.ErrNone {
		t.Errorf("First of what does not contradict itself: %d, %v", n, e)
	}
	if l, e := parcel.Leave(b); len(l) != 0 || e != api.OK {
		t.Errorf("Leave of what does not contradict itself: %v, %v", l, e)
	}
}

// TestPlay has one truth each: the days of the entries, the parcels sown on the day 0 (or as said), and what is so at the end of the day.
func TestPlay(t *testing.T) {
	zero := held(true, 0, 10)
	one := held(true, 1, 7)
	for _, x := range []struct {
		name string
		b    parcel.Book
		t    parcel.Truth
		day  int
		want []parcel.Holding
	}{
		{"nothing happens", small(), truth(nil, 0, 0), 0, []parcel.Holding{zero, one}},
		{"split of 100, Part 30", chapter(), truth(ints(6, 5, 7, 8), 2, 0), 5, []parcel.Holding{held(true, 0, 70), held(true, 1, 60), held(true, 0, 30)}},
		{"the day before a split", chapter(), truth(ints(6, 5, 7, 8), 2, 0), 4, []parcel.Holding{held(true, 0, 100), held(true, 1, 60), {}}},
		{"sold before its split", chapter(), truth(ints(4, 5, 7, 8), 2, 0), 5, []parcel.Holding{held(true, 2, 70), held(true, 1, 60), held(true, 2, 30)}},
		{"split before its sale", chapter(), truth(ints(6, 5, 6, 8), 2, 0), 9, []parcel.Holding{held(true, 2, 70), held(false, 0, 60), held(true, 1, 30)}},
		{"sown later", chapter(), truth(ints(6, 5, 6, 8), 3, 0), 2, []parcel.Holding{held(false, 0, 100), held(true, 1, 60), {}}},
		{"sown on this day", chapter(), truth(ints(6, 5, 6, 8), 3, 0), 3, []parcel.Holding{held(true, 0, 100), held(true, 1, 60), {}}},
		{"the day of a sale", small(sell(0, 0, 1, 2, 2)), truth(ints(2), 0, 0), 2, []parcel.Holding{held(true, 1, 10), one}},
		{"the day before a sale", small(sell(0, 0, 1, 2, 2)), truth(ints(2), 0, 0), 1, []parcel.Holding{zero, one}},
		{"sold twice on a day", small(sell(0, 0, 1, 2, 2), sell(0, 1, 0, 2, 2)), truth(ints(2, 2), 0, 0), 2, []parcel.Holding{zero, one}},
		{"by days, not by numbers", small(sell(0, 1, 0, 3, 3), sell(0, 0, 1, 2, 2)), truth(ints(3, 2), 0, 0), 2, []parcel.Holding{held(true, 1, 10), one}},
		{"swap", small(swap(0, 1, 2, 2)), truth(ints(2), 0, 0), 2, []parcel.Holding{held(true, 1, 10), held(true, 0, 7)}},
		{"swapped back", small(swap(0, 1, 2, 2), swap(1, 0, 3, 3)), truth(ints(2, 3), 0, 0), 3, []parcel.Holding{zero, one}},
		{"harvested is there", small(harvest(0, 2, 2)), truth(ints(2), 0, 0), 2, []parcel.Holding{held(false, 0, 10), one}},
		{"before the harvest", small(harvest(0, 2, 2)), truth(ints(2), 0, 0), 1, []parcel.Holding{zero, one}},
		{"the new one stays when the old one is harvested", small(split(0, 4, 1, 1), harvest(0, 2, 2)), truth(ints(1, 2), 0, 0), 3, []parcel.Holding{held(false, 0, 6), one, held(true, 0, 4)}},
		{"harvested on the day of the split", small(split(0, 4, 1, 1), harvest(2, 1, 1)), truth(ints(1, 1), 0, 0), 1, []parcel.Holding{held(true, 0, 6), one, held(false, 0, 4)}},
		{"a part of a part", small(split(0, 4, 1, 1), split(2, 1, 1, 1)), truth(ints(1, 1), 0, 0), 1, []parcel.Holding{held(true, 0, 6), one, held(true, 0, 3), held(true, 0, 1)}},
		{"the numbers are those of the list", small(split(0, 4, 3, 3), split(1, 2, 1, 1)), truth(ints(3, 1), 0, 0), 2, []parcel.Holding{zero, held(true, 1, 5), {}, held(true, 1, 2)}},
		{"part of the value less 1", small(split(0, 9, 1, 1)), truth(ints(1), 0, 0), 1, []parcel.Holding{held(true, 0, 1), one, held(true, 0, 9)}},
		{"entries of the last day", small(sell(0, 0, 1, 5, 5)), truth(ints(5), 0, 0), 5, []parcel.Holding{held(true, 1, 10), one}},
		{"entries of the first day", small(sell(0, 0, 1, 0, 0)), truth(ints(0), 0, 0), 0, []parcel.Holding{held(true, 1, 10), one}},
	} {
		if l, e := parcel.Play(x.b, x.t, x.day); !slices.Equal(l, x.want) || e != api.OK {
			t.Errorf("%s: %v, %v", x.name, l, e)
		}
		if !parcel.ProveTruth(x.b, x.t) {
			t.Errorf("%s: ProveTruth", x.name)
		}
	}
}

// TestUnsown has parcels that are sown after things happen to them.
func TestUnsown(t *testing.T) {
	b := parcel.Book{Last: 5, Owners: 2, Parcels: []parcel.Parcel{field(0, 10, 3, 3)}, Entries: []parcel.Entry{split(0, 4, 1, 1), sell(1, 0, 1, 2, 2)}}
	right := truth(ints(1, 2), 3)
	for day, want := range [][]parcel.Holding{
		{held(false, 0, 10), {}},
		{held(false, 0, 6), held(false, 0, 4)},
		{held(false, 0, 6), held(false, 1, 4)},
		{held(true, 0, 6), held(true, 1, 4)},
	} {
		if l, e := parcel.Play(b, right, day); !slices.Equal(l, want) || e != api.OK {
			t.Errorf("Play on %d: %v, %v", day, l, e)
		}
	}
	b.Entries = append(b.Entries, harvest(1, 2, 3))
	if v, e := parcel.Days(b, 2); v != to(3, 3) || e != api.OK {
		t.Errorf("Days of a harvest of what a split made: %v, %v", v, e)
	}
}

// TestPossible has books of one choice of days, in which an entry is not possible for one reason.
func TestPossible(t *testing.T) {
	for _, x := range []struct {
		name string
		b    parcel.Book
	}{
		{"sold by another owner", small(sell(0, 1, 0, 2, 2))},
		{"sold after it was sold", small(sell(0, 0, 1, 1, 1), sell(0, 0, 1, 2, 2))},
		{"sold after the harvest", small(harvest(0, 1, 1), sell(0, 0, 1, 2, 2))},
		{"sold after the harvest of the same day", small(harvest(0, 1, 1), sell(0, 0, 1, 1, 1))},
		{"sold before it is there", small(split(0, 4, 2, 2), sell(2, 0, 1, 1, 1))},
		{"sold before it is there, on the same day", small(sell(2, 0, 1, 1, 1), split(0, 4, 1, 1))},
		{"split into all of it", small(split(0, 10, 1, 1))},
		{"split into more than it", small(split(0, 11, 1, 1))},
		{"split into what is left", small(split(0, 4, 1, 1), split(0, 6, 2, 2))},
		{"split after the harvest", small(harvest(0, 1, 1), split(0, 4, 2, 2))},
		{"split of what is not there", small(split(2, 1, 1, 1))},
		{"split of what is made later", small(split(3, 1, 1, 1), split(0, 4, 2, 2))},
		{"swap of one owner", small(split(0, 4, 1, 1), swap(0, 2, 2, 2))},
		{"swap after a sale", small(sell(0, 0, 1, 1, 1), swap(0, 1, 2, 2))},
		{"swap after the harvest", small(harvest(0, 1, 1), swap(0, 1, 2, 2))},
		{"swap after the harvest of the other", small(harvest(1, 1, 1), swap(0, 1, 2, 2))},
		{"swap of what is not there", small(swap(2, 1, 1, 1), split(0, 4, 2, 2))},
		{"swap with what is not there", small(swap(1, 2, 1, 1), split(0, 4, 2, 2))},
		{"harvested twice", small(harvest(0, 1, 1), harvest(0, 2, 2))},
		{"harvested before it is there", small(harvest(2, 1, 1), split(0, 4, 2, 2))},
		{"harvested before sowing", parcel.Book{Last: 5, Owners: 1, Parcels: []parcel.Parcel{field(0, 1, 3, 3)}, Entries: []parcel.Entry{harvest(0, 2, 2)}}},
		{"a part, harvested before sowing", parcel.Book{Last: 5, Owners: 1, Parcels: []parcel.Parcel{field(0, 5, 3, 3)}, Entries: []parcel.Entry{split(0, 1, 0, 0), harvest(1, 2, 2)}}},
		{"a late entry", small(sell(0, 0, 1, 1, 1), sell(1, 0, 1, 5, 5))},
	} {
		only := choices(x.b)[0]
		for day := range x.b.Last + 1 {
			if l, e := parcel.Play(x.b, only, day); len(l) != 0 || e != api.ErrFalse {
				t.Errorf("%s: Play: %v, %v", x.name, l, e)
			}
		}
		if parcel.ProveTruth(x.b, only) {
			t.Errorf("%s: ProveTruth", x.name)
		}
		if l, e := parcel.Leave(x.b); len(l) == 0 || e != api.OK {
			t.Errorf("%s: Leave: %v, %v", x.name, l, e)
		}
	}
	b := parcel.Book{Last: 5, Owners: 1, Parcels: []parcel.Parcel{field(0, 1, 3, 3)}, Entries: []parcel.Entry{harvest(0, 3, 3)}}
	if !parcel.ProveTruth(b, truth(ints(3), 3)) {
		t.Error("harvested on the day of sowing")
	}
}

func TestOwnersAndCovered(t *testing.T) {
	late := parcel.Book{Last: 5, Owners: 2, Parcels: []parcel.Parcel{field(0, 10, 1, 3)}, Entries: []parcel.Entry{harvest(0, 2, 4)}}
	four := parcel.Book{Last: 5, Owners: 4, Parcels: []parcel.Parcel{field(3, 10, 0, 0)}, Entries: []parcel.Entry{sell(0, 3, 1, 0, 5), sell(0, 1, 2, 0, 5), sell(0, 2, 0, 0, 5)}}
	for _, x := range []struct {
		name    string
		b       parcel.Book
		n, day  int
		owners  []int
		covered int
	}{
		{"in increasing order", four, 0, 4, ints(0, 1, 2, 3), parcel.Always},
		{"at last", four, 0, 5, ints(0), parcel.Always},
		{"one owner, several values", small(split(0, 4, 1, 3)), 0, 2, ints(0), parcel.Always},
		{"there in some truths", small(split(0, 4, 1, 3)), 2, 2, ints(0), parcel.Perhaps},
		{"not there yet", small(split(0, 4, 1, 3)), 2, 0, nil, parcel.Never},
		{"harvested, and somebody's", small(harvest(0, 1, 1)), 0, 5, ints(0), parcel.Never},
		{"harvested perhaps", small(harvest(0, 1, 3)), 0, 1, ints(0), parcel.Perhaps},
		{"not sown yet", late, 0, 0, ints(0), parcel.Never},
		{"sown perhaps", late, 0, 1, ints(0), parcel.Perhaps},
		{"sown and harvested perhaps", late, 0, 3, ints(0), parcel.Perhaps},
		{"harvested surely", late, 0, 4, ints(0), parcel.Never},
		{"by what another entry allows", small(harvest(1, 1, 3), sell(1, 1, 0, 2, 2)), 1, 2, ints(0), parcel.Always},
	} {
		if l, e := parcel.Owners(x.b, x.n, x.day); !slices.Equal(l, x.owners) || e != api.OK {
			t.Errorf("%s: Owners: %v, %v", x.name, l, e)
		}
		if v, e := parcel.Covered(x.b, x.n, x.day); v != x.covered || e != api.OK {
			t.Errorf("%s: Covered: %d, %v", x.name, v, e)
		}
	}
}

func TestWorthAndDays(t *testing.T) {
	b := small(sell(1, 1, 0, 1, 3), harvest(0, 2, 4))
	for _, x := range []struct {
		owner, day int
		want       parcel.Range
	}{{0, 0, to(10, 10)}, {0, 1, to(10, 17)}, {0, 2, to(0, 17)}, {0, 3, to(7, 17)}, {0, 4, to(7, 7)}, {1, 2, to(0, 7)}, {1, 3, to(0, 0)}} {
		if v, e := parcel.Worth(b, x.owner, x.day); v != x.want || e != api.OK {
			t.Errorf("Worth of %d on %d: %v, %v", x.owner, x.day, v, e)
		}
	}
	for _, x := range []struct {
		b     parcel.Book
		entry int
		want  parcel.Range
	}{
		{b, 0, to(1, 3)},
		{b, 1, to(2, 4)},
		{small(harvest(1, 1, 3), sell(1, 1, 0, 2, 2)), 0, to(3, 3)},
		{small(sell(1, 1, 0, 2, 2), harvest(1, 1, 3)), 1, to(2, 3)},
		{small(sell(0, 0, 1, 0, 5), sell(0, 1, 0, 0, 2)), 0, to(0, 2)},
		{small(sell(0, 1, 0, 0, 2), sell(0, 0, 1, 0, 5)), 1, to(0, 1)},
		{parcel.Book{Last: 5, Owners: 1, Parcels: []parcel.Parcel{field(0, 1, 2, 5)}, Entries: []parcel.Entry{harvest(0, 0, 4)}}, 0, to(2, 4)},
	} {
		if v, e := parcel.Days(x.b, x.entry); v != x.want || e != api.OK {
			t.Errorf("Days of %v, %d: %v, %v", x.b, x.entry, v, e)
		}
	}
}

func TestFirstAndLeave(t *testing.T) {
	for _, x := range []struct {
		name  string
		b     parcel.Book
		first int
		e     api.Errno
		leave []int
	}{
		{"no entries", small(), 0, api.ErrNone, nil},
		{"one of two, the first one", small(sell(0, 0, 1, 1, 1), sell(0, 0, 1, 2, 2)), 1, api.OK, ints(0)},
		{"only with a later one", small(sell(0, 1, 0, 2, 2), sell(0, 0, 1, 1, 1)), 0, api.OK, nil},
		{"one instead of two", small(harvest(0, 1, 1), sell(0, 0, 1, 2, 2), sell(0, 1, 0, 3, 3)), 1, api.OK, ints(0)},
		{"a split, and what it makes", small(split(0, 10, 1, 1), sell(2, 0, 1, 2, 2)), 0, api.OK, ints(0, 1)},
		{"what a split makes later", small(split(0, 4, 2, 2), sell(2, 0, 1, 1, 1)), 1, api.OK, ints(1)},
		{"numbers stay without a split", small(split(0, 10, 1, 1), split(1, 2, 1, 1), sell(3, 1, 0, 2, 2)), 0, api.OK, ints(0)},
		{"numbers stay before a later split", small(sell(2, 1, 0, 2, 2), split(1, 2, 1, 1)), 0, api.OK, nil},
		{"0 and 1 before 0 and 2", small(sell(0, 1, 0, 1, 1), sell(0, 0, 1, 3, 3), sell(0, 0, 1, 2, 2)), 0, api.OK, ints(0, 1)},
		{"the last of the entries", small(swap(0, 1, 1, 1), swap(0, 1, 2, 2), harvest(0, 3, 3), harvest(1, 4, 4), split(1, 7, 0, 0)), 4, api.OK, ints(4)},
		{"all of six", small(sell(0, 1, 0, 0, 0), sell(0, 1, 0, 0, 0), sell(0, 1, 0, 0, 0), sell(1, 0, 1, 0, 0), sell(1, 0, 1, 0, 0), sell(1, 0, 1, 0, 0)), 0, api.OK, ints(0, 1, 2, 3, 4, 5)},
		{"a split of itself", parcel.Book{Owners: 1, Entries: []parcel.Entry{split(0, 1, 0, 0)}}, 0, api.OK, ints(0)},
	} {
		if n, e := parcel.First(x.b); n != x.first || e != x.e {
			t.Errorf("%s: First: %d, %v", x.name, n, e)
		}
		if l, e := parcel.Leave(x.b); !slices.Equal(l, x.leave) || e != api.OK {
			t.Errorf("%s: Leave: %v, %v", x.name, l, e)
		}
	}
}

// TestAtTheLimits has as many owners, parcels, entries and choices of days as there can be.
func TestAtTheLimits(t *testing.T) {
	var parcels []parcel.Parcel
	for owner := range 4 {
		parcels = append(parcels, field(owner, 1000, 0, 0))
	}
	b := parcel.Book{Last: 30, Owners: 4, Parcels: parcels, Entries: slices.Repeat([]parcel.Entry{split(3, 100, 28, 30)}, 6)}
	b.Parcels[0].Sown = to(30, 30)
	if l, e := parcel.Owners(b, 9, 30); !slices.Equal(l, ints(3)) || e != api.OK {
		t.Errorf("Owners: %v, %v", l, e)
	}
	if v, e := parcel.Covered(b, 9, 29); v != parcel.Perhaps || e != api.OK {
		t.Errorf("Covered: %v, %v", v, e)
	}
	if v, e := parcel.Worth(b, 3, 28); v != to(1000, 1000) || e != api.OK {
		t.Errorf("Worth: %v, %v", v, e)
	}
	if v, e := parcel.Days(b, 5); v != to(28, 30) || e != api.OK {
		t.Errorf("Days: %v, %v", v, e)
	}
	b.Entries[5].Part = 500
	if l, e := parcel.Leave(b); !slices.Equal(l, ints(0)) || e != api.OK {
		t.Errorf("Leave: %v, %v", l, e)
	}
	if n, e := parcel.First(b); n != 5 || e != api.OK {
		t.Errorf("First: %v, %v", n, e)
	}
}

// everything is what all calls return of a book, as a text.
func everything(b parcel.Book) string {
	text := fmt.Sprint(parcel.CheckBook(b))
	for day := range b.Last + 1 {
		for _, tr := range choices(b) {
			l, e := parcel.Play(b, tr, day)
			text += fmt.Sprint(l, e, parcel.ProveTruth(b, tr))
		}
		for n := range numbers(b) {
			l, e := parcel.Owners(b, n, day)
			v, f := parcel.Covered(b, n, day)
			text += fmt.Sprint(l, e, v, f)
		}
		for owner := range b.Owners {
			v, e := parcel.Worth(b, owner, day)
			text += fmt.Sprint(v, e)
		}
	}
	for i := range b.Entries {
		v, e := parcel.Days(b, i)
		text += fmt.Sprint(v, e)
	}
	n, e := parcel.First(b)
	l, f := parcel.Leave(b)
	return text + fmt.Sprint(n, e, l, f)
}

// TestMemory checks R4: arguments stay as they were, results can be written to, and equal calls return equal results.
func TestMemory(t *testing.T) {
	for _, b := range append(books(4, 60), chapter(), chapter(harvest(0, 1, 1)), untrue()) {
		before := clone(b)
		// Room behind the lists shows whether something was appended in it.
		b.Parcels = append(make([]parcel.Parcel, 0, 16), b.Parcels...)
		b.Entries = append(make([]parcel.Entry, 0, 16), b.Entries...)
		first := everything(b)
		if all := b.Parcels[:16]; !slices.Equal(b.Parcels, before.Parcels) || slices.ContainsFunc(all[len(b.Parcels):], func(p parcel.Parcel) bool { return p != parcel.Parcel{} }) {
			t.Fatalf("parcels written to: %v", before)
		}
		if all := b.Entries[:16]; !slices.Equal(b.Entries, before.Entries) || slices.ContainsFunc(all[len(b.Entries):], func(e parcel.Entry) bool { return e != parcel.Entry{} }) {
			t.Fatalf("entries written to: %v", before)
		}
		for _, tr := range choices(b) {
			days, sown := slices.Clone(tr.Days), slices.Clone(tr.Sown)
			l, _ := parcel.Play(b, tr, 0)
			for i := range l {
				l[i].Owner = 77
			}
			if !slices.Equal(tr.Days, days) || !slices.Equal(tr.Sown, sown) {
				t.Fatalf("a truth written to: %v", b)
			}
		}
		for n := range numbers(b) {
			l, _ := parcel.Owners(b, n, 0)
			for i := range l {
				l[i] = 77
			}
		}
		l, _ := parcel.Leave(b)
		for i := range l {
			l[i] = 77
		}
		if everything(b) != first {
			t.Fatalf("not the same again: %v", b)
		}
	}
}

// TestEmptyLists checks R3: nil is the same as a list without elements.
func TestEmptyLists(t *testing.T) {
	for _, b := range []parcel.Book{{Owners: 1}, {Owners: 2, Last: 3, Parcels: []parcel.Parcel{field(1, 5, 0, 2)}}, {Owners: 1, Entries: []parcel.Entry{split(0, 1, 0, 0)}}} {
		full := b
		full.Parcels = append([]parcel.Parcel{}, b.Parcels...)
		full.Entries = append([]parcel.Entry{}, b.Entries...)
		if everything(b) != everything(full) {
			t.Errorf("nil is not the same as empty: %v", b)
		}
	}
	if l, e := parcel.Play(parcel.Book{Owners: 1, Last: 3}, parcel.Truth{}, 3); len(l) != 0 || e != api.OK {
		t.Errorf("Play of no parcels: %v, %v", l, e)
	}
	if v, e := parcel.Worth(parcel.Book{Owners: 1, Last: 3}, 0, 3); v != to(0, 0) || e != api.OK {
		t.Errorf("Worth of no parcels: %v, %v", v, e)
	}
}
