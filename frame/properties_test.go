package frame_test

import (
	"math/rand/v2"
	"slices"
	"testing"

	"hailstone/api"
	"hailstone/frame"
)

// spanOf is the range from the minimum to the maximum of a number of some lists.
func spanOf(all [][]int, number func(list []int) int) frame.Range {
	r := at(number(all[0]))
	for _, list := range all {
		r = to(min(r.Lo, number(list)), max(r.Hi, number(list)))
	}
	return r
}

// TestSurveys checks that there are enough surveys of each sort for the other tests.
func TestSurveys(t *testing.T) {
	sorts := map[string]int{}
	for _, s := range surveys(2, 400) {
		if !hasTruth(t, s) {
			sorts["no truth"]++
			continue
		}
		if slices.ContainsFunc(s.Counts, func(c frame.Count) bool { return c.Late }) {
			sorts["late"]++
		}
		if s.Field.Rows > 1 && s.Field.Columns > 1 {
			sorts["both sides"]++
		}
		if len(truths(s)) < len(choices(s.Field)) {
			sorts["something is known"]++
		}
		if l, _ := frame.Fewest(s, 50); len(l) > 0 {
			sorts["open"]++
			if l[0] > 0 {
				sorts["not the first place"]++
			}
			if len(l) > 1 {
				sorts["several places"]++
			}
		}
	}
	for sort, least := range map[string]int{"no truth": 50, "late": 50, "both sides": 50, "something is known": 100, "open": 50, "not the first place": 10, "several places": 20} {
		if sorts[sort] < least {
			t.Errorf("%s: %d", sort, sorts[sort])
		}
	}
}

// someLot has a lot of the field.
func someLot(r *rand.Rand, f frame.Field) frame.Lot {
	return lot(r.IntN(10000), r.IntN(10000), r.IntN(min(6, len(f.Stems))+1))
}

// TestLotsOfModel checks P3.1 and P3.7.
func TestLotsOfModel(t *testing.T) {
	r := rand.New(rand.NewPCG(3, 3))
	for range 2000 {
		f := someField(r)
		draws := someLot(r, f)
		l, e := frame.Draw(f, draws)
		if !slices.Equal(l, drawn(f, draws)) || e != api.OK {
			t.Fatalf("Draw of %v, %v: %v, %v", f, draws, l, e)
		}
		if len(l) != draws.Draws {
			t.Fatalf("Draw of %v, %v: %v", f, draws, l)
		}
		for i, place := range l {
			if place < 0 || place >= f.Rows*f.Columns || slices.Contains(l[:i], place) {
				t.Fatalf("Draw of %v, %v: %v", f, draws, l)
			}
		}
		for fewer := range draws.Draws {
			k, e := frame.Draw(f, lot(draws.Seed, draws.Step, fewer))
			if !slices.Equal(k, l[:fewer]) || e != api.OK {
				t.Fatalf("Draw of %v, %v: %v, %v with %d draws, and %v", f, draws, k, e, fewer, l)
			}
		}
		var counts []frame.Count
		var want []int
		for i := range r.IntN(7) {
			place := r.IntN(len(f.Stems) + 1)
			first := slices.IndexFunc(counts, func(c frame.Count) bool { return c.Place == place }) < 0
			if !first || slices.Index(l, place) < 0 {
				want = append(want, i)
			}
			counts = append(counts, frame.Count{Place: place, Late: r.IntN(2) == 0, Hits: to(r.IntN(4), r.IntN(4))})
		}
		if k, e := frame.Foreign(f, draws, counts); !slices.Equal(k, want) || e != api.OK {
			t.Fatalf("Foreign of %v, %v, %v: %v, %v, not %v", f, draws, counts, k, e, want)
		}
	}
}

// TestTruthsOfModel checks P3.2 and P3.3.
func TestTruthsOfModel(t *testing.T) {
	for _, s := range surveys(4, 300) {
		all := truths(s)
		for _, list := range choices(s.Field) {
			is := slices.ContainsFunc(all, func(l []int) bool { return slices.Equal(l, list) })
			if got := frame.ProveTruth(s, list); got != is {
				t.Fatalf("ProveTruth of %v, %v: %v", s, list, got)
			}
			if v, e := frame.Share(s, list); v != shareOf(s.Field, list) || e != api.OK {
				t.Fatalf("Share of %v, %v: %d, %v", s, list, v, e)
			}
		}
		for place := range s.Field.Stems {
			v, e := frame.Hits(s, place)
			if len(all) == 0 {
				if v != at(0) || e != api.ErrFail {
					t.Fatalf("Hits of %v at %d: %v, %v", s, place, v, e)
				}
			} else if want := spanOf(all, func(list []int) int { return list[place] }); v != want || e != api.OK {
				t.Fatalf("Hits of %v at %d: %v, %v, not %v", s, place, v, e, want)
			}
		}
		b, e := frame.Bounds(s)
		if len(all) == 0 {
			if b != at(0) || e != api.ErrFail {
				t.Fatalf("Bounds of %v: %v, %v", s, b, e)
			}
		} else if want := spanOf(all, func(list []int) int { return shareOf(s.Field, list) }); b != want || e != api.OK {
			t.Fatalf("Bounds of %v: %v, %v, not %v", s, b, e, want)
		}
	}
}

// parts are some parts, with those where the share begins and ends.
func parts(s frame.Survey) []int {
	list := ints(0, 1, 33, 50, 67, 100)
	if b, e := frame.Bounds(s); e == api.OK {
		list = append(list, b.Lo, b.Hi, min(100, b.Lo+1), min(100, b.Hi+1), (b.Lo+b.Hi+1)/2)
	}
	return list
}

// TestPartsOfModel checks P3.4: of all lists, the shorter ones first, Fewest is the first one that decides.
func TestPartsOfModel(t *testing.T) {
	for _, s := range surveys(5, 150) {
		all := truths(s)
		if len(all) == 0 {
			continue
		}
		for _, part := range parts(s) {
			reached := 0
			for _, list := range all {
				if shareOf(s.Field, list) >= part {
					reached++
				}
			}
			want := frame.Perhaps
			if reached == len(all) {
				want = frame.Always
			} else if reached == 0 {
				want = frame.Never
			}
			if v, e := frame.Above(s, part); v != want || e != api.OK {
				t.Fatalf("Above of %v, %d: %d, %v, not %d", s, part, v, e, want)
			}
			lists := subsets(len(s.Field.Stems))
			first := slices.IndexFunc(lists, func(l []int) bool { return decide(s.Field, all, part, l...) })
			if l, e := frame.Fewest(s, part); !slices.Equal(l, lists[first]) || e != api.OK || (len(l) == 0) != (want != frame.Perhaps) {
				t.Fatalf("Fewest of %v, %d: %v, %v, not %v", s, part, l, e, lists[first])
			}
		}
	}
}

// TestLeaveOfModel checks P3.5: of all lists, the shorter ones first, Leave is the first one that can be left out.
func TestLeaveOfModel(t *testing.T) {
	sizes := map[int]int{}
	for _, s := range surveys(6, 400) {
		lists := subsets(len(s.Counts))
		first := slices.IndexFunc(lists, func(l []int) bool { return len(truths(s, l...)) > 0 })
		l, e := frame.Leave(s)
		if !slices.Equal(l, lists[first]) || e != api.OK || (len(l) == 0) != hasTruth(t, s) {
			t.Fatalf("Leave of %v: %v, %v, not %v", s, l, e, lists[first])
		}
		if slices.ContainsFunc(l, func(i int) bool { return s.Counts[i].Late }) {
			t.Fatalf("Leave of %v: %v with a late one", s, l)
		}
		sizes[len(l)]++
	}
	if sizes[0] < 100 || sizes[1] < 50 || sizes[2] < 5 {
		t.Errorf("sizes of what is left out: %v", sizes)
	}
}

// TestInEachTruth checks P3.6 by the calls alone.
func TestInEachTruth(t *testing.T) {
	for _, s := range surveys(7, 150) {
		b, e := frame.Bounds(s)
		if e != api.OK {
			continue
		}
		if l, e := frame.Leave(s); len(l) != 0 || e != api.OK {
			t.Fatalf("Leave of %v: %v, %v", s, l, e)
		}
		for _, list := range choices(s.Field) {
			if !frame.ProveTruth(s, list) {
				continue
			}
			share, _ := frame.Share(s, list)
			if !has(b, share) {
				t.Fatalf("Bounds of %v: %v without %d", s, b, share)
			}
			for place, n := range list {
				if v, e := frame.Hits(s, place); !has(v, n) || e != api.OK {
					t.Fatalf("Hits of %v at %d: %v, %v without %d", s, place, v, e, n)
				}
			}
			for _, part := range ints(share, min(100, share+1), max(0, share-1)) {
				v, e := frame.Above(s, part)
				if e != api.OK || v == frame.Always && share < part || v == frame.Never && share >= part {
					t.Fatalf("Above of %v, %d: %d, %v, and %v has %d", s, part, v, e, list, share)
				}
			}
		}
	}
}

// compare checks that no bounds of the first survey are wider than those of the second one. Both have a truth.
func compare(t *testing.T, less, more frame.Survey) {
	t.Helper()
	b, e := frame.Bounds(less)
	c, f := frame.Bounds(more)
	if e != api.OK || f != api.OK || !inside(b, c) {
		t.Fatalf("Bounds: %v, %v of %v, %v, %v of %v", b, e, less, c, f, more)
	}
	for place := range more.Field.Stems {
		b, e := frame.Hits(less, place)
		c, f := frame.Hits(more, place)
		if e != api.OK || f != api.OK || !inside(b, c) {
			t.Fatalf("Hits of %d: %v, %v of %v, %v, %v of %v", place, b, e, less, c, f, more)
		}
	}
}

// TestOneMoreCount checks P3.8.
func TestOneMoreCount(t *testing.T) {
	r := rand.New(rand.NewPCG(8, 8))
	compared, grown, shorter := 0, 0, 0
	for _, s := range surveys(8, 400) {
		all := truths(frame.Survey{Field: s.Field, Smooth: s.Smooth})
		more := with(s, someCount(r, all[r.IntN(len(all))]))
		before, _ := frame.Leave(s)
		after, e := frame.Leave(more)
		if e != api.OK || len(after) < len(before) || len(after) > len(before)+1 {
			t.Fatalf("Leave of %v: %v; of %v: %v, %v", s, before, more, after, e)
		}
		if len(after) > len(before) {
			grown++
		}
		if len(after) > 0 {
			continue
		}
		compared++
		compare(t, more, s)
		for _, part := range parts(s) {
			l, e := frame.Fewest(s, part)
			k, f := frame.Fewest(more, part)
			if e != api.OK || f != api.OK || len(k) > len(l) {
				t.Fatalf("Fewest for %d: %v, %v of %v, %v, %v of %v", part, l, e, s, k, f, more)
			}
			if len(k) < len(l) {
				shorter++
			}
		}
	}
	if compared < 50 || grown < 20 || shorter < 20 {
		t.Errorf("%d surveys compared, %d with one more to leave out, %d shorter lists", compared, grown, shorter)
	}
}

// decides asks the package whether the part is reached always, or never, if the hits of the places are counted, however they are in a truth.
func decides(t *testing.T, s frame.Survey, all [][]int, part int, places ...int) bool {
	t.Helper()
	asked := map[string]bool{}
	for _, truth := range all {
		key := ""
		for _, place := range places {
			key += string(rune('0' + truth[place]))
		}
		if asked[key] {
			continue
		}
		asked[key] = true
		if v, e := frame.Above(counted(t, s, truth, places...), part); e != api.OK {
			t.Fatalf("Above of %v with %v counted at %v: %v", s, truth, places, e)
		} else if v == frame.Perhaps {
			return false
		}
	}
	return true
}

// TestDecided checks P3.9 by the calls alone: any shorter list is tried, and any list that is lexicographically before it. Fields with more places than there can be counts are left to TestPartsOfModel.
func TestDecided(t *testing.T) {
	lists := map[int]int{}
	for _, s := range surveys(9, 200) {
		if !hasTruth(t, s) || len(s.Field.Stems) > api.MaxFrameCounts {
			continue
		}
		all := truths(s)
		for _, part := range parts(s)[6:] {
			l, e := frame.Fewest(s, part)
			if e != api.OK || !decides(t, s, all, part, l...) {
				t.Fatalf("Fewest of %v, %d: %v, %v", s, part, l, e)
			}
			lists[len(l)]++
			for _, list := range subsets(len(s.Field.Stems)) {
				if slices.Equal(list, l) {
					break
				}
				if decides(t, s, all, part, list...) {
					t.Fatalf("Fewest of %v, %d: %v, not %v", s, part, l, list)
				}
			}
		}
	}
	if lists[0] < 50 || lists[1] < 20 || lists[2] < 20 || lists[3] < 10 {
		t.Errorf("lengths of the lists: %v", lists)
	}
}

// TestSmoother checks P3.10.
func TestSmoother(t *testing.T) {
	wider := 0
	for _, s := range surveys(10, 250) {
		if !hasTruth(t, s) {
			continue
		}
		before, _ := frame.Bounds(s)
		for smooth := s.Smooth + 1; smooth <= api.MaxFrameStems; smooth++ {
			more := s
			more.Smooth = smooth
			compare(t, s, more)
		}
		s.Smooth = api.MaxFrameStems
		if after, _ := frame.Bounds(s); after != before {
			wider++
		}
		for place, stems := range s.Field.Stems {
			want := to(0, stems)
			for _, c := range s.Counts {
				if c.Place == place && !c.Late {
					want = to(max(want.Lo, c.Hits.Lo), min(want.Hi, c.Hits.Hi))
				}
			}
			if v, e := frame.Hits(s, place); v != want || e != api.OK {
				t.Fatalf("Hits of %v at %d: %v, %v, not %v", s, place, v, e, want)
			}
		}
	}
	if wider < 30 {
		t.Errorf("%d surveys with wider bounds", wider)
	}
}

// turned is the place in the field whose rows are its columns.
func turned(f frame.Field, place int) int { return place%f.Columns*f.Rows + place/f.Columns }

// turn is the survey of the field whose rows are its columns.
func turn(s frame.Survey) frame.Survey {
	other := clone(s)
	other.Field.Rows, other.Field.Columns = s.Field.Columns, s.Field.Rows
	for place, n := range s.Field.Stems {
		other.Field.Stems[turned(s.Field, place)] = n
	}
	for i, c := range s.Counts {
		other.Counts[i].Place = turned(s.Field, c.Place)
	}
	return other
}

// TestTurned checks P3.11.
func TestTurned(t *testing.T) {
	for _, s := range surveys(11, 250) {
		other := turn(s)
		b, e := frame.Bounds(s)
		if c, f := frame.Bounds(other); b != c || e != f {
			t.Fatalf("Bounds: %v, %v of %v, %v, %v of %v", b, e, s, c, f, other)
		}
		for place := range s.Field.Stems {
			b, e := frame.Hits(s, place)
			if c, f := frame.Hits(other, turned(s.Field, place)); b != c || e != f {
				t.Fatalf("Hits of %d: %v, %v of %v, %v, %v of %v", place, b, e, s, c, f, other)
			}
		}
		l, _ := frame.Leave(s)
		if k, _ := frame.Leave(other); !slices.Equal(l, k) {
			t.Fatalf("Leave: %v of %v, %v of %v", l, s, k, other)
		}
		l, _ = frame.Fewest(s, 50)
		if k, _ := frame.Fewest(other, 50); len(l) != len(k) {
			t.Fatalf("Fewest: %v of %v, %v of %v", l, s, k, other)
		}
	}
}

// TestGreaterParts checks P3.12: from part to part it goes from Always over Perhaps to Never, and not back.
func TestGreaterParts(t *testing.T) {
	for _, s := range surveys(12, 200) {
		if !hasTruth(t, s) {
			continue
		}
		order := ints(frame.Always, frame.Perhaps, frame.Never)
		before := 0
		for part := range api.MaxFrameHundred + 1 {
			v, e := frame.Above(s, part)
			n := slices.Index(order, v)
			if e != api.OK || n < before || part == 0 && n > 0 {
				t.Fatalf("Above of %v, %d: %d, %v", s, part, v, e)
			}
			before = n
		}
	}
}

// TestLeftOut checks P3.13 by the calls alone: any shorter list is tried, and any list that is lexicographically before it.
func TestLeftOut(t *testing.T) {
	for _, s := range surveys(13, 300) {
		l, e := frame.Leave(s)
		if e != api.OK {
			t.Fatalf("Leave of %v: %v", s, e)
		}
		for _, list := range subsets(len(s.Counts)) {
			if slices.Equal(list, l) {
				break
			}
			if hasTruth(t, drop(s, list...)) {
				t.Fatalf("Leave of %v: %v, not %v", s, l, list)
			}
		}
		if !hasTruth(t, drop(s, l...)) {
			t.Fatalf("Leave of %v: %v", s, l)
		}
	}
}

// TestLate checks P3.14.
func TestLate(t *testing.T) {
	narrower := 0
	for _, s := range surveys(14, 400) {
		i := slices.IndexFunc(s.Counts, func(c frame.Count) bool { return c.Late })
		if i < 0 || !hasTruth(t, s) {
			continue
		}
		without := drop(s, i)
		compare(t, s, without)
		compare(t, without, s)
		if b, c := everythingElse(s), everythingElse(without); !slices.Equal(b, c) {
			t.Fatalf("with a late count: %v of %v, %v of %v", b, s, c, without)
		}
		asked := clone(s)
		asked.Counts[i].Late = false
		if hasTruth(t, asked) {
			compare(t, asked, s)
			b, _ := frame.Bounds(s)
			if c, _ := frame.Bounds(asked); b != c {
				narrower++
			}
		}
	}
	if narrower < 20 {
		t.Errorf("%d surveys with narrower bounds", narrower)
	}
}

// everythingElse has the fewest places of some parts, each list behind its length.
func everythingElse(s frame.Survey) []int {
	var all []int
	for _, part := range ints(1, 25, 50, 75, 100) {
		v, _ := frame.Above(s, part)
		l, _ := frame.Fewest(s, part)
		all = append(append(all, v, len(l)), l...)
	}
	return all
}

// TestAnyOrder checks P7: the counts are listed in other orders.
func TestAnyOrder(t *testing.T) {
	r := rand.New(rand.NewPCG(15, 15))
	for _, s := range surveys(15, 200) {
		other := clone(s)
		r.Shuffle(len(other.Counts), func(i, k int) { other.Counts[i], other.Counts[k] = other.Counts[k], other.Counts[i] })
		l, _ := frame.Leave(s)
		if k, _ := frame.Leave(other); len(l) != len(k) {
			t.Fatalf("Leave: %v of %v, %v of %v", l, s, k, other)
		}
		if hasTruth(t, s) != hasTruth(t, other) {
			t.Fatalf("a truth of %v, or of %v", s, other)
		}
		if hasTruth(t, s) {
			compare(t, s, other)
			compare(t, other, s)
			if b, c := everythingElse(s), everythingElse(other); !slices.Equal(b, c) {
				t.Fatalf("in another order: %v of %v, %v of %v", b, s, c, other)
			}
		}
	}
}
