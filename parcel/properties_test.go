package parcel_test

import (
	"math/rand/v2"
	"slices"
	"testing"

	"hailstone/api"
	"hailstone/parcel"
)

// sums are what the owners have covered.
func sums(b parcel.Book, l []parcel.Holding) []int {
	list := make([]int, b.Owners)
	for _, h := range l {
		if h.Covered {
			list[h.Owner] += h.Value
		}
	}
	return list
}

// TestBooks checks that there are enough books of each sort for the other tests.
func TestBooks(t *testing.T) {
	kinds, consistent, not, made := map[int]int{}, 0, 0, 0
	for _, b := range books(1, 400) {
		if len(truths(b)) == 0 {
			not++
			continue
		}
		consistent++
		if numbers(b) > len(b.Parcels) && len(b.Entries) > 2 {
			made++
		}
		for _, e := range b.Entries {
			kinds[e.Kind]++
		}
	}
	if consistent < 100 || not < 100 || made < 20 || len(kinds) != 4 {
		t.Errorf("%d with a truth, %d without, %d with a split, kinds %v", consistent, not, made, kinds)
	}
}

// TestPlayOfModel checks P1.1: Play and ProveTruth, against the model, for all choices of days.
func TestPlayOfModel(t *testing.T) {
	for _, b := range books(2, 250) {
		for _, tr := range choices(b) {
			for day := range b.Last + 1 {
				want, ok := replay(b, tr, day)
				l, e := parcel.Play(b, tr, day)
				if ok != (e == api.OK) || !ok && e != api.ErrFalse || !slices.Equal(l, want) {
					t.Fatalf("Play of %v, %v, %d: %v, %v, not %v", b, tr, day, l, e, want)
				}
				if parcel.ProveTruth(b, tr) != ok {
					t.Fatalf("ProveTruth of %v, %v", b, tr)
				}
			}
		}
	}
}

// TestAllTruths checks P1.2, P1.3, P1.5 and P1.8: what is returned is what is so in the truths together, neither more nor less.
func TestAllTruths(t *testing.T) {
	for _, b := range books(3, 400) {
		all := truths(b)
		if len(all) == 0 {
			if l, e := parcel.Leave(b); len(l) == 0 || e != api.OK {
				t.Fatalf("Leave of %v: %v, %v", b, l, e)
			}
			wantFail(t, b)
			continue
		}
		for day := range b.Last + 1 {
			var ends [][]parcel.Holding
			for _, tr := range all {
				l, e := parcel.Play(b, tr, day)
				if e != api.OK {
					t.Fatalf("Play of %v, %v: %v", b, tr, e)
				}
				ends = append(ends, l)
			}
			checkEnds(t, b, day, ends)
		}
		for i := range b.Entries {
			want := to(b.Last, 0)
			for _, tr := range all {
				want = to(min(want.Lo, tr.Days[i]), max(want.Hi, tr.Days[i]))
			}
			if v, e := parcel.Days(b, i); v != want || e != api.OK {
				t.Fatalf("Days of %v, %d: %v, %v, not %v", b, i, v, e, want)
			}
		}
		if l, e := parcel.Leave(b); len(l) != 0 || e != api.OK {
			t.Fatalf("Leave of %v: %v, %v", b, l, e)
		}
	}
}

func checkEnds(t *testing.T, b parcel.Book, day int, ends [][]parcel.Holding) {
	t.Helper()
	for n := range numbers(b) {
		var owners []int
		covered := 0
		for _, end := range ends {
			if end[n].There {
				owners = append(owners, end[n].Owner)
			}
			if end[n].Covered {
				covered++
			}
		}
		slices.Sort(owners)
		owners = slices.Compact(owners)
		if l, e := parcel.Owners(b, n, day); !slices.Equal(l, owners) || e != api.OK {
			t.Fatalf("Owners of %v, %d, %d: %v, %v, not %v", b, n, day, l, e, owners)
		}
		want := parcel.Perhaps
		if covered == 0 {
			want = parcel.Never
		} else if covered == len(ends) {
			want = parcel.Always
		}
		if v, e := parcel.Covered(b, n, day); v != want || e != api.OK {
			t.Fatalf("Covered of %v, %d, %d: %v, %v, not %v", b, n, day, v, e, want)
		}
	}
	for owner := range b.Owners {
		var worth []int
		for _, end := range ends {
			worth = append(worth, sums(b, end)[owner])
		}
		want := to(slices.Min(worth), slices.Max(worth))
		if v, e := parcel.Worth(b, owner, day); v != want || e != api.OK {
			t.Fatalf("Worth of %v, %d, %d: %v, %v, not %v", b, owner, day, v, e, want)
		}
	}
}

// wantFail checks the calls that need a truth.
func wantFail(t *testing.T, b parcel.Book) {
	t.Helper()
	for day := range b.Last + 1 {
		for n := range numbers(b) {
			if l, e := parcel.Owners(b, n, day); len(l) != 0 || e != api.ErrFail {
				t.Fatalf("Owners of %v: %v, %v", b, l, e)
			}
			if v, e := parcel.Covered(b, n, day); v != 0 || e != api.ErrFail {
				t.Fatalf("Covered of %v: %v, %v", b, v, e)
			}
		}
		for owner := range b.Owners {
			if v, e := parcel.Worth(b, owner, day); v != to(0, 0) || e != api.ErrFail {
				t.Fatalf("Worth of %v: %v, %v", b, v, e)
			}
		}
	}
	for i := range b.Entries {
		if v, e := parcel.Days(b, i); v != to(0, 0) || e != api.ErrFail {
			t.Fatalf("Days of %v: %v, %v", b, v, e)
		}
	}
}

// TestNothingIsLost checks P1.6.
func TestNothingIsLost(t *testing.T) {
	for _, b := range books(5, 250) {
		total := 0
		for _, p := range b.Parcels {
			total += p.Value
		}
		for _, tr := range choices(b) {
			for day := range b.Last + 1 {
				l, e := parcel.Play(b, tr, day)
				if e != api.OK {
					continue
				}
				there, covered := 0, 0
				for _, h := range l {
					there += h.Value
					if !h.There && h != (parcel.Holding{}) || h.Covered && !h.There {
						t.Fatalf("Play of %v, %v, %d: %v", b, tr, day, l)
					}
				}
				for _, sum := range sums(b, l) {
					covered += sum
				}
				if there != total || covered > total {
					t.Fatalf("Play of %v, %v, %d: %v has %d, covered %d, of %d", b, tr, day, l, there, covered, total)
				}
			}
		}
	}
}

// TestLaterEntries checks P1.7: truths that differ only in days after a day have the same holdings on it.
func TestLaterEntries(t *testing.T) {
	pairs := 0
	for _, b := range books(6, 250) {
		all := truths(b)
		for day := range b.Last + 1 {
			for _, one := range all {
				for _, two := range all {
					if !sameUntil(one, two, day) {
						continue
					}
					pairs++
					l, _ := parcel.Play(b, one, day)
					k, _ := parcel.Play(b, two, day)
					if !slices.Equal(l, k) {
						t.Fatalf("Play of %v, on %d: %v is %v, %v is %v", b, day, one, l, two, k)
					}
				}
			}
		}
	}
	if pairs < 1000 {
		t.Errorf("%d pairs of truths", pairs)
	}
}

func sameUntil(a, b parcel.Truth, day int) bool {
	for i, d := range a.Days {
		if e := b.Days[i]; d != e && min(d, e) <= day {
			return false
		}
	}
	return slices.Equal(a.Sown, b.Sown)
}

// compare checks that the first book has no more Owners and no wider Days, as far as its entries go, and Worth if asked.
func compare(t *testing.T, less, more parcel.Book, worth bool) {
	t.Helper()
	for day := range more.Last + 1 {
		for n := range numbers(more) {
			l, _ := parcel.Owners(less, n, day)
			if k, _ := parcel.Owners(more, n, day); !subset(l, k) {
				t.Fatalf("Owners of %d on %d: %v of %v, %v of %v", n, day, l, less, k, more)
			}
		}
		for owner := range more.Owners {
			v, _ := parcel.Worth(less, owner, day)
			if w, _ := parcel.Worth(more, owner, day); worth && !within(v, w) {
				t.Fatalf("Worth of %d on %d: %v of %v, %v of %v", owner, day, v, less, w, more)
			}
		}
	}
	for i := range more.Entries {
		v, _ := parcel.Days(less, i)
		if w, _ := parcel.Days(more, i); !within(v, w) {
			t.Fatalf("Days of %d: %v of %v, %v of %v", i, v, less, w, more)
		}
	}
}

// TestOneMoreHarvest checks P1.9.
func TestOneMoreHarvest(t *testing.T) {
	r := rand.New(rand.NewPCG(9, 9))
	compared := 0
	for _, b := range books(7, 400) {
		if numbers(b) == 0 || len(b.Entries) == api.MaxParcelEntries {
			continue
		}
		more := clone(b)
		more.Entries = append(more.Entries, harvest(r.IntN(numbers(b)), r.IntN(b.Last+1), b.Last))
		before, _ := parcel.Leave(b)
		after, e := parcel.Leave(more)
		if e != api.OK || len(after) < len(before) {
			t.Fatalf("Leave of %v: %v, with one more harvest %v, %v", b, before, after, e)
		}
		if len(after) == 0 {
			compared++
			compare(t, more, b, false)
		}
	}
	if compared < 50 {
		t.Errorf("%d books compared", compared)
	}
}

// TestWider checks P1.10, and that what is always or never so in the wider book is so in the narrower one.
func TestWider(t *testing.T) {
	r := rand.New(rand.NewPCG(10, 10))
	compared := 0
	for _, b := range books(8, 400) {
		wide := clone(b)
		ranges := []*parcel.Range{}
		for i := range wide.Entries {
			ranges = append(ranges, &wide.Entries[i].Day)
		}
		for i := range wide.Parcels {
			ranges = append(ranges, &wide.Parcels[i].Sown)
		}
		if len(ranges) == 0 {
			continue
		}
		x := ranges[r.IntN(len(ranges))]
		*x = to(max(0, x.Lo-r.IntN(3)), min(b.Last, x.Hi+r.IntN(3)))
		before, _ := parcel.Leave(b)
		after, e := parcel.Leave(wide)
		if e != api.OK || len(after) > len(before) {
			t.Fatalf("Leave of %v: %v; of %v: %v, %v", b, before, wide, after, e)
		}
		if len(before) > 0 {
			continue
		}
		compared++
		compare(t, b, wide, true)
		for day := range b.Last + 1 {
			for n := range numbers(b) {
				v, _ := parcel.Covered(b, n, day)
				if w, _ := parcel.Covered(wide, n, day); w != parcel.Perhaps && v != w {
					t.Fatalf("Covered of %d on %d: %d of %v, %d of %v", n, day, v, b, w, wide)
				}
			}
		}
	}
	if compared < 50 {
		t.Errorf("%d books compared", compared)
	}
}

// TestFirstOne checks P1.11 and First: up to each entry before it there is a truth, and with it there is none.
func TestFirstOne(t *testing.T) {
	for _, b := range books(9, 400) {
		want, e := 0, api.ErrNone
		for n := range b.Entries {
			after := ints()
			for i := n + 1; i < len(b.Entries); i++ {
				after = append(after, i)
			}
			ok := possible(t, b, after...)
			if ok != (len(truths(b, after...)) > 0) {
				t.Fatalf("without %v of %v: %v", after, b, ok)
			}
			if !ok {
				want, e = n, api.OK
				break
			}
		}
		if n, f := parcel.First(b); n != want || f != e {
			t.Fatalf("First of %v: %d, %v, not %d, %v", b, n, f, want, e)
		}
	}
}

// TestLeftOut checks P1.12 and Leave: of all lists, the shorter ones first, it is the first one without which there is a truth.
func TestLeftOut(t *testing.T) {
	sizes := map[int]int{}
	for _, b := range books(10, 400) {
		l, e := parcel.Leave(b)
		if e != api.OK {
			t.Fatalf("Leave of %v: %v", b, e)
		}
		sizes[len(l)]++
		for _, list := range subsets(len(b.Entries)) {
			ok := len(truths(b, list...)) > 0
			if possible(t, b, list...) != ok {
				t.Fatalf("without %v of %v: not %v", list, b, ok)
			}
			if ok {
				if !slices.Equal(l, list) {
					t.Fatalf("Leave of %v: %v, not %v", b, l, list)
				}
				break
			}
		}
	}
	if sizes[0] < 50 || sizes[1] < 50 || sizes[2] < 10 {
		t.Errorf("sizes of the lists: %v", sizes)
	}
}

// TestOtherNames checks P1.13: the owners are renumbered by each permutation.
func TestOtherNames(t *testing.T) {
	for _, b := range books(11, 150) {
		for _, name := range [][]int{{1, 0, 2}, {2, 0, 1}, {1, 2, 0}, {2, 1, 0}} {
			if b.Owners == 2 && name[2] != 2 {
				continue
			}
			other := clone(b)
			for i := range other.Parcels {
				other.Parcels[i].Owner = name[b.Parcels[i].Owner]
			}
			for i, e := range b.Entries {
				if e.Kind == parcel.Sell {
					other.Entries[i].From, other.Entries[i].To = name[e.From], name[e.To]
				}
			}
			checkOtherNames(t, b, other, name)
		}
	}
}

func checkOtherNames(t *testing.T, b, other parcel.Book, name []int) {
	t.Helper()
	for day := range b.Last + 1 {
		for n := range numbers(b) {
			l, e := parcel.Owners(b, n, day)
			for i := range l {
				l[i] = name[l[i]]
			}
			slices.Sort(l)
			if k, f := parcel.Owners(other, n, day); !slices.Equal(l, k) || e != f {
				t.Fatalf("Owners of %d on %d: %v of %v, %v of %v", n, day, l, b, k, other)
			}
			v, e := parcel.Covered(b, n, day)
			if w, f := parcel.Covered(other, n, day); v != w || e != f {
				t.Fatalf("Covered of %d on %d: %v of %v, %v of %v", n, day, v, b, w, other)
			}
		}
		for owner := range b.Owners {
			v, e := parcel.Worth(b, owner, day)
			if w, f := parcel.Worth(other, name[owner], day); v != w || e != f {
				t.Fatalf("Worth of %d on %d: %v of %v, %v of %v", owner, day, v, b, w, other)
			}
		}
	}
	for i := range b.Entries {
		v, e := parcel.Days(b, i)
		if w, f := parcel.Days(other, i); v != w || e != f {
			t.Fatalf("Days of %d: %v of %v, %v of %v", i, v, b, w, other)
		}
	}
	n, e := parcel.First(b)
	if m, f := parcel.First(other); n != m || e != f {
		t.Fatalf("First: %d of %v, %d of %v", n, b, m, other)
	}
	l, _ := parcel.Leave(b)
	if k, _ := parcel.Leave(other); !slices.Equal(l, k) {
		t.Fatalf("Leave: %v of %v, %v of %v", l, b, k, other)
	}
}

// TestHarvested checks P1.14.
func TestHarvested(t *testing.T) {
	harvests := 0
	for _, b := range books(12, 400) {
		if len(truths(b)) == 0 {
			continue
		}
		for i, e := range b.Entries {
			if e.Kind != parcel.Harvest {
				continue
			}
			harvests++
			days, _ := parcel.Days(b, i)
			for day := days.Hi; day <= b.Last; day++ {
				wantNever(t, b, e.Parcel, day)
			}
		}
		for n := range numbers(b) {
			for day := range b.Parcels[root(b, n)].Sown.Lo {
				wantNever(t, b, n, day)
			}
		}
	}
	if harvests < 50 {
		t.Errorf("%d harvests", harvests)
	}
}

// root is the one of Parcels from which the parcel was split, in a book that has a truth.
func root(b parcel.Book, n int) int {
	for n >= len(b.Parcels) {
		at := n - len(b.Parcels)
		for _, e := range b.Entries {
			if e.Kind != parcel.Split {
				continue
			}
			if at == 0 {
				n = e.Parcel
				break
			}
			at--
		}
	}
	return n
}

func wantNever(t *testing.T, b parcel.Book, n, day int) {
	t.Helper()
	if v, e := parcel.Covered(b, n, day); v != parcel.Never || e != api.OK {
		t.Fatalf("Covered of %v, %d, %d: %d, %v", b, n, day, v, e)
	}
}
