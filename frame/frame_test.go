package frame_test

import (
	"slices"
	"testing"

	"hailstone/api"
	"hailstone/frame"
)

func TestNumbersOfAbove(t *testing.T) {
	if l := ints(frame.Always, frame.Never, frame.Perhaps); !slices.Equal(l, ints(1, 2, 3)) {
		t.Errorf("the results of Above: %v", l)
	}
}

func TestExamples(t *testing.T) {
	s := chapter()
	if l, e := frame.Draw(s.Field, lot(5, 7, 3)); !slices.Equal(l, ints(2, 3, 0)) || e != api.OK {
		t.Errorf("Draw: %v, %v", l, e)
	}
	if l, e := frame.Foreign(s.Field, lot(5, 7, 3), s.Counts); len(l) != 0 || e != api.OK {
		t.Errorf("Foreign: %v, %v", l, e)
	}
	if l, e := frame.Foreign(s.Field, lot(5, 7, 2), s.Counts); !slices.Equal(l, ints(0)) || e != api.OK {
		t.Errorf("Foreign with 2 draws: %v, %v", l, e)
	}
	if v, e := frame.Share(s, ints(4, 3, 2, 1)); v != 62 || e != api.OK {
		t.Errorf("Share: %d, %v", v, e)
	}
	for place, want := range []frame.Range{at(4), to(2, 4), to(0, 3), to(0, 1)} {
		if v, e := frame.Hits(s, place); v != want || e != api.OK {
			t.Errorf("Hits of %d: %v, %v", place, v, e)
		}
	}
	if b, e := frame.Bounds(s); b != to(37, 75) || e != api.OK {
		t.Errorf("Bounds: %v, %v", b, e)
	}
	for part, want := range map[int]int{40: frame.Perhaps, 80: frame.Never, 30: frame.Always} {
		if v, e := frame.Above(s, part); v != want || e != api.OK {
			t.Errorf("Above of %d: %d, %v", part, v, e)
		}
	}
	for part, want := range map[int][]int{40: {2, 3}, 75: {1, 2}, 80: nil, 30: nil} {
		if l, e := frame.Fewest(s, part); !slices.Equal(l, want) || e != api.OK {
			t.Errorf("Fewest for %d: %v, %v", part, l, e)
		}
	}
	if l, e := frame.Leave(chapter(count(1, at(1)))); !slices.Equal(l, ints(0)) || e != api.OK {
		t.Errorf("Leave: %v, %v", l, e)
	}
}

func TestDraw(t *testing.T) {
	for _, x := range []struct {
		name string
		f    frame.Field
		l    frame.Lot
		want []int
	}{
		{"all places", zeros(1, 4), lot(5, 7, 4), ints(2, 3, 0, 1)},
		{"nothing", zeros(1, 4), lot(5, 7, 0), nil},
		{"one place", zeros(1, 1), lot(17, 3, 1), ints(0)},
		{"two places", zeros(2, 1), lot(1, 0, 2), ints(1, 0)},
		{"from nothing", zeros(3, 3), lot(0, 0, 6), ints(0, 1, 6, 2, 3, 4)},
		{"seed 1", zeros(3, 3), lot(1, 0, 6), ints(4, 8, 5, 2, 0, 6)},
		{"the greatest numbers", zeros(3, 3), lot(9999, 9999, 6), ints(4, 5, 3, 6, 0, 1)},
		{"the seed 9972", zeros(3, 3), lot(9972, 0, 6), ints(6, 4, 8, 0, 3, 1)},
		{"a seed of the modulo is one of 0", zeros(3, 3), lot(9973, 0, 6), ints(0, 1, 6, 2, 3, 4)},
		{"a step of the modulo is one of 0", zeros(1, 4), lot(0, 9973, 4), ints(0, 1, 2, 3)},
		{"after the last place comes the first one", zeros(3, 3), lot(0, 8, 6), ints(8, 5, 3, 0, 2, 1)},
		{"step 1", zeros(1, 3), lot(0, 1, 3), ints(1, 0, 2)},
		{"step 2", zeros(3, 1), lot(0, 2, 3), ints(2, 0, 1)},
		{"six of six", zeros(2, 3), lot(1, 1, 6), ints(2, 4, 5, 0, 1, 3)},
		{"six of eight", zeros(4, 2), lot(1234, 5678, 6), ints(0, 6, 7, 3, 1, 4)},
		{"the stems do not matter", field(1, 4, 9, 0, 3, 2), lot(5, 7, 4), ints(2, 3, 0, 1)},
	} {
		if l, e := frame.Draw(x.f, x.l); !slices.Equal(l, x.want) || e != api.OK {
			t.Errorf("%s: Draw: %v, %v, not %v", x.name, l, e, x.want)
		}
	}
}

func TestForeign(t *testing.T) {
	places := func(l ...int) []frame.Count {
		var counts []frame.Count
		for _, place := range l {
			counts = append(counts, count(place, at(0)))
		}
		return counts
	}
	// The places 2, 3 and 0 are drawn, one after the other.
	for _, x := range []struct {
		name   string
		draws  int
		counts []frame.Count
		want   []int
	}{
		{"no counts", 3, nil, nil},
		{"those that were drawn", 3, places(0, 2, 3), nil},
		{"one that was not", 3, places(0, 1, 2, 3), ints(1)},
		{"nothing was drawn", 0, places(0, 1, 2, 3), ints(0, 1, 2, 3)},
		{"only one was drawn", 1, places(0, 1, 2, 3), ints(0, 1, 3)},
		{"all were drawn", 4, places(3, 2, 1, 0), nil},
		{"one twice", 3, places(0, 0, 3), ints(1)},
		{"one twice, not one after the other", 3, places(0, 3, 2, 0), ints(3)},
		{"all of them again", 3, places(3, 2, 3, 2, 3, 2), ints(2, 3, 4, 5)},
		{"one twice that was not drawn", 3, places(1, 1, 0), ints(0, 1)},
		{"a place beyond", 3, places(4, 0, 99, 2), ints(0, 2)},
		{"a place below 0", 3, places(-1, 0), ints(0)},
		{"late ones too", 3, []frame.Count{late(1, at(0)), late(2, at(0)), count(2, at(0))}, ints(0, 2)},
		{"hits do not matter", 3, []frame.Count{count(2, to(5, -7)), count(3, at(99))}, nil},
		{"the same place with other hits", 3, []frame.Count{count(2, at(1)), count(2, at(2))}, ints(1)},
	} {
		if l, e := frame.Foreign(zeros(1, 4), lot(5, 7, x.draws), x.counts); !slices.Equal(l, x.want) || e != api.OK {
			t.Errorf("%s: Foreign: %v, %v, not %v", x.name, l, e, x.want)
		}
	}
}

func TestShare(t *testing.T) {
	for _, x := range []struct {
		name string
		s    frame.Survey
		list []int
		want int
	}{
		{"the document's", chapter(), ints(4, 4, 1, 1), 62},
		{"no hits", chapter(), ints(0, 0, 0, 0), 0},
		{"all hits", chapter(), ints(4, 4, 4, 4), 100},
		{"not smooth", chapter(), ints(4, 0, 4, 0), 50},
		{"against the counts", chapter(), ints(0, 1, 2, 3), 37},
		{"against each other", chapter(never()), ints(0, 1, 2, 3), 37},
		{"no stems", survey(zeros(2, 2), 0), ints(0, 0, 0, 0), 0},
		{"one of 3", survey(field(1, 2, 2, 1), 9), ints(0, 1), 33},
		{"two of 3", survey(field(1, 2, 2, 1), 9), ints(1, 1), 66},
		{"three of 7", survey(field(1, 2, 3, 4), 9), ints(3, 0), 42},
		{"all but one", survey(field(2, 2, 9, 9, 9, 1), 9), ints(9, 9, 8, 1), 96},
		{"places without stems", survey(field(1, 4, 0, 5, 0, 3), 9), ints(0, 1, 0, 0), 12},
		{"9 places", survey(field(3, 3, 1, 1, 1, 1, 1, 1, 1, 1, 1), 9), ints(1, 0, 0, 0, 1, 1, 0, 0, 1), 44},
	} {
		if v, e := frame.Share(x.s, x.list); v != x.want || e != api.OK {
			t.Errorf("%s: Share of %v: %d, %v, not %d", x.name, x.list, v, e, x.want)
		}
	}
}

func TestProveTruth(t *testing.T) {
	square := survey(field(2, 2, 4, 4, 4, 4), 1)
	wide := survey(field(2, 3, 2, 2, 2, 2, 2, 2), 1)
	for _, x := range []struct {
		name string
		s    frame.Survey
		list []int
		want bool
	}{
		{"the chapter's", chapter(), ints(4, 3, 2, 1), true},
		{"as far apart as can be", chapter(), ints(4, 2, 0, 0), true},
		{"too far apart", chapter(), ints(4, 1, 0, 0), false},
		{"too far apart, upwards", chapter(), ints(4, 2, 0, 1), true},
		{"the count 0 is wrong", chapter(), ints(3, 2, 0, 0), false},
		{"the count 1 is wrong", chapter(), ints(4, 3, 2, 2), false},
		{"a late count is wrong", chapter(late(1, at(4))), ints(4, 3, 2, 1), true},
		{"a count at the same place is wrong", chapter(count(0, to(0, 3))), ints(4, 3, 2, 1), false},
		{"too few hits", chapter(), ints(4, 3, 2), false},
		{"too many hits", chapter(), ints(4, 3, 2, 1, 0), false},
		{"more hits than stems", chapter(), ints(5, 3, 2, 1), false},
		{"hits below 0", chapter(), ints(4, 2, 0, -1), false},
		{"a row", square, ints(0, 1, 0, 1), true},
		{"a row too far apart", square, ints(0, 2, 0, 1), false},
		{"a row too far apart, below", square, ints(1, 1, 0, 2), false},
		{"a column too far apart", square, ints(2, 1, 0, 1), false},
		{"a column too far apart, at the right", square, ints(1, 2, 0, 0), false},
		{"corners are no neighbours", square, ints(2, 1, 1, 0), true},
		{"other corners are no neighbours", square, ints(1, 2, 0, 1), true},
		{"the end of a row is no neighbour of the next one", wide, ints(1, 1, 2, 0, 1, 1), true},
		{"nor is its beginning", wide, ints(0, 1, 1, 1, 1, 2), true},
		{"no stems", survey(zeros(3, 3), 0), make([]int, 9), true},
		{"no field", frame.Survey{}, nil, false},
	} {
		if got := frame.ProveTruth(x.s, x.list); got != x.want {
			t.Errorf("%s: ProveTruth of %v: %v", x.name, x.list, got)
		}
	}
}

func TestBoundsAndHits(t *testing.T) {
	square := field(2, 2, 4, 4, 4, 4)
	for _, x := range []struct {
		name  string
		s     frame.Survey
		share frame.Range
		hits  []frame.Range
	}{
		{"no counts", survey(square, 0), to(0, 100), []frame.Range{to(0, 4), to(0, 4), to(0, 4), to(0, 4)}},
		{"a corner", survey(square, 1, count(0, at(4))), to(75, 100), []frame.Range{at(4), to(3, 4), to(3, 4), to(2, 4)}},
		{"another corner", survey(square, 1, count(1, at(4))), to(75, 100), []frame.Range{to(3, 4), at(4), to(2, 4), to(3, 4)}},
		{"not smooth at all", survey(square, 9, count(0, at(4))), to(25, 100), []frame.Range{at(4), to(0, 4), to(0, 4), to(0, 4)}},
		{"all the same", survey(square, 0, count(3, to(1, 2))), to(25, 50), []frame.Range{to(1, 2), to(1, 2), to(1, 2), to(1, 2)}},
		{"more than the stems", survey(square, 9, count(2, to(3, 9))), to(18, 100), []frame.Range{to(0, 4), to(0, 4), to(3, 4), to(0, 4)}},
		{"two counts of a place", survey(square, 9, count(2, to(1, 3)), count(2, to(2, 4))), to(12, 93), []frame.Range{to(0, 4), to(0, 4), to(2, 3), to(0, 4)}},
		{"a late count", survey(square, 9, late(2, at(2))), to(0, 100), []frame.Range{to(0, 4), to(0, 4), to(0, 4), to(0, 4)}},
		{"no stems between", survey(field(1, 3, 9, 0, 9), 2), to(0, 22), []frame.Range{to(0, 2), at(0), to(0, 2)}},
		{"a column", survey(field(3, 1, 9, 9, 9), 2, count(0, at(9))), to(77, 100), []frame.Range{at(9), to(7, 9), to(5, 9)}},
		{"no stems at all", survey(zeros(1, 2), 0, count(0, to(0, 5))), at(0), []frame.Range{at(0), at(0)}},
		{"one place", survey(field(1, 1, 7), 0, count(0, to(2, 3))), to(28, 42), []frame.Range{to(2, 3)}},
		{"9 places of one count", survey(field(3, 3, 1, 1, 1, 1, 1, 1, 1, 1, 1), 0, count(8, at(1))), at(100), slices.Repeat([]frame.Range{at(1)}, 9)},
		{"the middle", survey(field(3, 3, 0, 1, 0, 1, 9, 1, 0, 1, 0), 1, count(4, to(1, 9))), to(7, 46), []frame.Range{at(0), to(0, 1), at(0), to(0, 1), to(1, 2), to(0, 1), at(0), to(0, 1), at(0)}},
	} {
		if b, e := frame.Bounds(x.s); b != x.share || e != api.OK {
			t.Errorf("%s: Bounds: %v, %v, not %v", x.name, b, e, x.share)
		}
		for place, want := range x.hits {
			if v, e := frame.Hits(x.s, place); v != want || e != api.OK {
				t.Errorf("%s: Hits of %d: %v, %v, not %v", x.name, place, v, e, want)
			}
		}
	}
}

func TestAbove(t *testing.T) {
	exact := survey(field(1, 4, 4, 4, 4, 4), 2, count(0, at(4)), count(1, at(3)), count(2, at(2)), count(3, at(1)))
	for _, x := range []struct {
		name string
		s    frame.Survey
		part int
		want int
	}{
		{"the least part", chapter(), 0, frame.Always},
		{"the minimum", chapter(), 37, frame.Always},
		{"above the minimum", chapter(), 38, frame.Perhaps},
		{"the maximum", chapter(), 75, frame.Perhaps},
		{"above the maximum", chapter(), 76, frame.Never},
		{"the greatest part", chapter(), 100, frame.Never},
		{"one truth", exact, 62, frame.Always},
		{"one truth, above", exact, 63, frame.Never},
		{"no stems", survey(zeros(1, 1), 0), 0, frame.Always},
		{"no stems, above", survey(zeros(1, 1), 0), 1, frame.Never},
		{"all can be hit", survey(field(1, 1, 9), 0), 100, frame.Perhaps},
		{"all are hit", survey(field(1, 1, 9), 0, count(0, at(9))), 100, frame.Always},
	} {
		if v, e := frame.Above(x.s, x.part); v != x.want || e != api.OK {
			t.Errorf("%s: Above of %d: %d, %v, not %d", x.name, x.part, v, e, x.want)
		}
	}
}

func TestFewest(t *testing.T) {
	nine := field(3, 3, 1, 1, 1, 1, 1, 1, 1, 1, 1)
	for _, x := range []struct {
		name string
		s    frame.Survey
		part int
		want []int
	}{
		{"decided always", chapter(), 37, nil},
		{"decided never", chapter(), 76, nil},
		{"both places", survey(field(1, 2, 1, 1), 9), 50, ints(0, 1)},
		{"all are the same", survey(field(1, 2, 1, 1), 0), 50, ints(0)},
		{"all of 9 are the same", survey(nine, 0), 100, ints(0)},
		{"a place without stems", survey(field(1, 3, 0, 4, 0), 9), 50, ints(1)},
		{"one is counted", survey(field(1, 2, 4, 4), 9, count(0, at(3))), 50, ints(1)},
		{"the other one is counted late", survey(field(1, 2, 4, 4), 9, late(0, at(3))), 50, ints(0, 1)},
		{"a small one matters too", survey(field(1, 2, 1, 9), 9), 50, ints(0, 1)},
		{"a great one says what its neighbour has", survey(field(1, 2, 1, 9), 4), 60, ints(1)},
		{"a small one decides", survey(field(1, 3, 1, 0, 9), 9, count(2, at(9))), 95, ints(0)},
		{"all 9 places", survey(nine, 9), 50, ints(0, 1, 2, 3, 4, 5, 6, 7, 8)},
		{"all but those that are known", survey(nine, 9, count(0, at(1)), count(4, at(0)), count(8, at(1))), 50, ints(1, 2, 3, 5, 6, 7)},
		{"the first ones of several", survey(field(1, 4, 1, 1, 1, 1), 9, count(1, at(0)), count(2, at(1))), 50, ints(0, 3)},
	} {
		if l, e := frame.Fewest(x.s, x.part); !slices.Equal(l, x.want) || e != api.OK {
			t.Errorf("%s: Fewest for %d: %v, %v, not %v", x.name, x.part, l, e, x.want)
		}
	}
}

func TestLeave(t *testing.T) {
	free := func(counts ...frame.Count) frame.Survey { return survey(field(1, 4, 4, 4, 4, 4), 1, counts...) }
	for _, x := range []struct {
		name string
		s    frame.Survey
		want []int
	}{
		{"no counts", free(), nil},
		{"the chapter's without more", chapter(), nil},
		{"more hits than stems", free(count(2, to(5, 9))), ints(0)},
		{"a pair of one place", free(count(2, at(1)), count(2, at(2))), ints(0)},
		{"two against one", free(count(2, at(1)), count(2, at(2)), count(2, at(1))), ints(1)},
		{"one against two", free(count(2, at(1)), count(2, at(2)), count(2, at(2))), ints(0)},
		{"a late one against it", free(count(2, at(1)), late(2, at(2))), nil},
		{"a late one before it", free(late(2, at(2)), count(2, at(1)), count(2, at(0))), ints(1)},
		{"a late one that is never right", free(late(2, at(9))), nil},
		{"neighbours", free(count(1, at(1)), count(2, at(2))), nil},
		{"neighbours that jump", free(count(1, at(1)), count(2, at(3))), ints(0)},
		{"a place between", free(count(0, at(4)), count(2, at(2))), nil},
		{"a jump over a place between", free(count(0, at(4)), count(2, at(1))), ints(0)},
		{"one between two others", free(count(0, at(1)), count(2, at(1)), count(1, at(4))), ints(2)},
		{"two pairs", free(count(0, at(0)), count(0, at(1)), count(3, at(0)), count(3, at(1))), ints(0, 2)},
		{"three pairs", free(count(0, at(0)), count(0, at(1)), count(1, at(0)), count(1, at(1)), count(2, at(0)), count(2, at(1))), ints(0, 2, 4)},
		{"all of six", free(slices.Repeat([]frame.Count{never()}, 6)...), ints(0, 1, 2, 3, 4, 5)},
		{"the last of six", free(append(slices.Repeat([]frame.Count{count(1, at(2))}, 5), count(1, at(3)))...), ints(5)},
		{"the first of six", free(append([]frame.Count{count(1, at(3))}, slices.Repeat([]frame.Count{count(1, at(2))}, 5)...)...), ints(0)},
		{"all the same", survey(field(2, 2, 4, 4, 4, 4), 0, count(0, to(0, 2)), count(3, to(2, 4)), count(1, to(1, 2)), count(2, at(3))), ints(3)},
	} {
		if l, e := frame.Leave(x.s); !slices.Equal(l, x.want) || e != api.OK {
			t.Errorf("%s: Leave: %v, %v, not %v", x.name, l, e, x.want)
		}
	}
}

// TestAtTheLimits has as many places, counts and choices as there can be.
func TestAtTheLimits(t *testing.T) {
	s := survey(field(3, 3, 1, 1, 1, 1, 1, 1, 1, 1, 6), 9, slices.Repeat([]frame.Count{count(8, to(0, 9))}, 6)...)
	if b, e := frame.Bounds(s); b != to(0, 100) || e != api.OK {
		t.Errorf("Bounds: %v, %v", b, e)
	}
	if v, e := frame.Hits(s, 8); v != to(0, 6) || e != api.OK {
		t.Errorf("Hits: %v, %v", v, e)
	}
	if l, e := frame.Fewest(s, 50); !slices.Equal(l, ints(0, 1, 2, 3, 4, 5, 6, 7, 8)) || e != api.OK {
		t.Errorf("Fewest: %v, %v", l, e)
	}
	for i := range s.Counts {
		s.Counts[i].Hits = to(7, 9)
	}
	if l, e := frame.Leave(s); !slices.Equal(l, ints(0, 1, 2, 3, 4, 5)) || e != api.OK {
		t.Errorf("Leave: %v, %v", l, e)
	}
	four := survey(field(1, 4, 9, 9, 9, 1), 9)
	if l, e := frame.Fewest(four, 100); !slices.Equal(l, ints(0, 1, 2, 3)) || e != api.OK {
		t.Errorf("Fewest: %v, %v", l, e)
	}
}

// roomy is the survey with room behind its lists, which shows whether something was appended in it.
func roomy(s frame.Survey) frame.Survey {
	s.Field.Stems = append(make([]int, 0, 16), s.Field.Stems...)
	s.Counts = append(make([]frame.Count, 0, 16), s.Counts...)
	return s
}

func sameRoomy(s, before frame.Survey) bool {
	stems, counts := s.Field.Stems, s.Counts
	return slices.Equal(stems, before.Field.Stems) && slices.Equal(counts, before.Counts) &&
		slices.Max(append(ints(0), stems[len(stems):16]...)) == 0 &&
		!slices.ContainsFunc(counts[len(counts):16], func(c frame.Count) bool { return c != frame.Count{} })
}

// TestMemory checks R4: arguments stay as they were, results can be written to, and equal calls return equal results.
func TestMemory(t *testing.T) {
	for _, base := range append(surveys(1, 40), chapter(), chapter(never())) {
		s := roomy(base)
		first := everything(s)
		truth := truths(base, 0, 1, 2, 3, 4, 5)[0]
		asked := slices.Clone(truth)
		frame.Share(s, asked)
		frame.ProveTruth(s, asked)
		if !slices.Equal(asked, truth) {
			t.Fatalf("truth written to: %v", truth)
		}
		draws := lot(3, 4, min(6, len(truth)))
		for _, call := range []func() ([]int, api.Errno){
			func() ([]int, api.Errno) { return frame.Leave(s) },
			func() ([]int, api.Errno) { return frame.Fewest(s, 50) },
			func() ([]int, api.Errno) { return frame.Draw(s.Field, draws) },
			func() ([]int, api.Errno) { return frame.Foreign(s.Field, draws, s.Counts) },
		} {
			l, _ := call()
			kept := slices.Clone(l)
			other, _ := call()
			for i := range other {
				other[i] = 77
			}
			if !slices.Equal(l, kept) {
				t.Fatalf("results share memory: %v", base)
			}
			for i := range l {
				l[i] = 77
			}
			_ = append(l, 77)
		}
		if !sameRoomy(s, base) {
			t.Fatalf("written to: %v", base)
		}
		if everything(s) != first {
			t.Fatalf("not the same again: %v", s)
		}
	}
}

// TestEmptyLists checks R3: nil is the same as a list without elements.
func TestEmptyLists(t *testing.T) {
	for _, s := range []frame.Survey{survey(field(1, 2, 3, 1), 2), survey(zeros(1, 1), 0), {}} {
		s.Counts = nil
		empty := s
		empty.Counts = []frame.Count{}
		if len(s.Field.Stems) == 0 {
			empty.Field.Stems = []int{}
		}
		if everything(s) != everything(empty) {
			t.Errorf("nil is not the same as empty: %v", s)
		}
	}
	if a, b := frame.ProveTruth(frame.Survey{}, nil), frame.ProveTruth(frame.Survey{}, ints()); a || b {
		t.Errorf("ProveTruth of nothing: %v, %v", a, b)
	}
}
