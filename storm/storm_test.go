package storm_test

import (
	"fmt"
	"slices"
	"testing"

	"hailstone/api"
	"hailstone/storm"
)

func TestVerdictNumbers(t *testing.T) {
	if l := ints(storm.Inside, storm.Outside, storm.Open); !slices.Equal(l, ints(1, 2, 3)) {
		t.Errorf("the verdicts: %v", l)
	}
}

func TestExamples(t *testing.T) {
	want := chapter(3)
	want.A, want.B = at(1), at(2)
	if b, e := storm.Bounds(chapter(3)); !same(b, want) || e != api.OK {
		t.Errorf("Bounds: %v, %v", b, e)
	}
	for _, x := range []struct {
		r    storm.Rect
		want int
	}{{rect(to(0, 1), at(1)), storm.Inside}, {rect(to(0, 4), at(4)), storm.Outside}, {rect(at(0), to(0, 3)), storm.Open}} {
		if v, e := storm.Verdict(chapter(3), x.r); v != x.want || e != api.OK {
			t.Errorf("Verdict of %v: %d, %v", x.r, v, e)
		}
	}
	for y, want := range []storm.Range{at(0), at(2), at(3), at(2), at(0)} {
		if v, e := storm.Sizes(chapter(3), 4, y); v != want || e != api.OK {
			t.Errorf("Sizes at 4, %d: %v, %v", y, v, e)
		}
	}
	if n, e := storm.First(chapter(4)); n != 3 || e != api.OK {
		t.Errorf("First: %d, %v", n, e)
	}
	if l, e := storm.Leave(chapter(4)); !slices.Equal(l, ints(1)) || e != api.OK {
		t.Errorf("Leave: %v, %v", l, e)
	}
	if l, e := storm.Clash(chapter(4)); !slices.Equal(l, ints(0, 1, 3)) || e != api.OK {
		t.Errorf("Clash: %v, %v", l, e)
	}
	if x, y, worst, e := storm.Best(chapter(2)); x != 2 || y != 1 || worst != 2 || e != api.OK {
		t.Errorf("Best: %d, %d, %d, %v", x, y, worst, e)
	}
	left := 0
	for _, tr := range choices(chapter(2)) {
		if storm.ProveTruth(chapter(2), tr) {
			left++
		}
	}
	if left != 3 {
		t.Errorf("%d truths with the cards 0 and 1", left)
	}
}

// TestMiddleOfTheDocument is the example of DOC.md: the middle goes from the row 1 to the row 2, and the rows 4 and 5 are not hit.
func TestMiddleOfTheDocument(t *testing.T) {
	s := storm.Storm{Wide: 5, High: 6, A: at(1), B: at(2), Half: at(1), Peak: at(3)}
	for y, want := range ints(storm.Open, storm.Inside, storm.Inside, storm.Open, storm.Outside, storm.Outside) {
		if v, e := storm.Verdict(s, rect(to(0, 4), at(y))); v != want || e != api.OK {
			t.Errorf("Verdict of the row %d: %d, %v", y, v, e)
		}
	}
}

// TestSkies has storms of one truth, with the sizes of all places, y by y.
func TestSkies(t *testing.T) {
	for _, x := range []struct {
		name string
		s    storm.Storm
		want []string
	}{
		{"falling to 1 at least", single(), []string{"30000", "55300", "35553", "00355", "00003"}},
		{"upwards", storm.Storm{Wide: 5, High: 5, Fall: 2, A: at(3), B: at(1), Half: at(1), Peak: at(5)}, []string{"00003", "00355", "35553", "55300", "30000"}},
		{"no width", storm.Storm{Wide: 3, High: 3, Fall: 4, B: at(2), Peak: at(9)}, []string{"900", "090", "009"}},
		{"no width, between the rows", storm.Storm{Wide: 3, High: 2, B: at(1), Peak: at(9)}, []string{"900", "009"}},
		{"no fall", storm.Storm{Wide: 2, High: 4, A: at(3), B: at(3), Half: at(2), Peak: at(7)}, []string{"00", "77", "77", "77"}},
		{"a steep fall", storm.Storm{Wide: 2, High: 5, Fall: 4, A: at(0), B: at(0), Half: at(3), Peak: at(9)}, []string{"99", "55", "11", "11", "00"}},
		{"a fall below 1", storm.Storm{Wide: 2, High: 5, Fall: 3, A: at(0), B: at(0), Half: at(3), Peak: at(1)}, []string{"11", "11", "11", "11", "00"}},
		{"to 0 exactly", storm.Storm{Wide: 2, High: 4, Fall: 2, A: at(0), B: at(0), Half: at(2), Peak: at(4)}, []string{"44", "22", "11", "00"}},
		{"rounded down", storm.Storm{Wide: 4, High: 4, Fall: 1, A: at(0), B: at(2), Half: at(2), Peak: at(3)}, []string{"3321", "2332", "1233", "0022"}},
		{"one row", storm.Storm{Wide: 2, High: 1, Fall: 1, Half: at(3), Peak: at(2)}, []string{"22"}},
		{"a great one", storm.Storm{Wide: 12, High: 12, Fall: 4, A: at(11), B: at(0), Half: at(3), Peak: at(9)}, []string{
			"000000001159", "000000011595", "000000115951", "000001159511", "000011595110", "000115951100",
			"001159511000", "011595110000", "115951100000", "159511000000", "595110000000", "951100000000",
		}},
	} {
		for y, row := range x.want {
			for px, size := range row {
				want := int(size - '0')
				if v, e := storm.Sizes(x.s, px, y); v != at(want) || e != api.OK {
					t.Errorf("%s: Sizes at %d, %d: %v, %v, not %d", x.name, px, y, v, e, want)
				}
				verdict := storm.Inside
				if want == 0 {
					verdict = storm.Outside
				}
				if v, e := storm.Verdict(x.s, rect(at(px), at(y))); v != verdict || e != api.OK {
					t.Errorf("%s: Verdict of %d, %d: %v, %v", x.name, px, y, v, e)
				}
			}
		}
	}
}

// TestRightCards has a storm of one truth, with one card, which is right or wrong.
func TestRightCards(t *testing.T) {
	for _, x := range []struct {
		name string
		card storm.Card
		want bool
	}{
		{"the size", hail(at(0), at(0), at(3)), true},
		{"a smaller size", hail(at(0), at(0), to(0, 2)), false},
		{"a greater size", hail(at(0), at(0), to(4, 9)), false},
		{"the end of the sizes", hail(at(0), at(0), to(0, 3)), true},
		{"the beginning of the sizes", hail(at(0), at(0), to(3, 9)), true},
		{"any size", hail(at(0), at(0), to(0, 9)), true},
		{"the size 0 in the path", hail(at(0), at(0), at(0)), false},
		{"the size 0 outside the path", hail(at(1), at(0), at(0)), false},
		{"any size outside the path", hail(at(1), at(0), to(0, 9)), false},
		{"some place in the path", hail(to(0, 4), at(0), at(3)), true},
		{"no place in the path", hail(to(1, 4), at(0), to(0, 9)), false},
		{"the last x", hail(to(1, 4), at(4), at(3)), true},
		{"the last y", hail(at(4), to(0, 2), at(3)), true},
		{"the first y", hail(at(0), to(2, 4), at(3)), true},
		{"places of other sizes", hail(to(0, 1), to(1, 1), at(3)), false},
		{"places of both sizes", hail(to(0, 2), to(1, 1), at(3)), true},
		{"sizes between", hail(to(0, 4), to(0, 4), at(4)), false},
		{"size of one place, hail of the other", hail(to(0, 1), at(0), at(5)), false},
		{"no hail in the path", none(at(0), at(0)), false},
		{"no hail outside the path", none(at(1), at(0)), true},
		{"no hail at some place", none(to(0, 1), at(0)), true},
		{"no hail at no place", none(to(1, 2), to(1, 2)), false},
		{"no hail at one place of many", none(to(0, 2), to(1, 3)), true},
		{"no hail anywhere", none(to(0, 4), to(0, 4)), true},
	} {
		s := single(x.card)
		if got := storm.ProveTruth(s, storm.Truth{A: 1, B: 3, Half: 1, Peak: 5}); got != x.want {
			t.Errorf("%s: ProveTruth: %v", x.name, got)
		}
		if got := hasTruth(t, s); got != x.want {
			t.Errorf("%s: a truth: %v", x.name, got)
		}
		var left []int
		clash := api.ErrNone
		if !x.want {
			left, clash = ints(0), api.OK
		}
		if l, e := storm.Leave(s); !slices.Equal(l, left) || e != api.OK {
			t.Errorf("%s: Leave: %v, %v", x.name, l, e)
		}
		if l, e := storm.Clash(s); !slices.Equal(l, left) || e != clash {
			t.Errorf("%s: Clash: %v, %v", x.name, l, e)
		}
		if n, e := storm.First(s); n != 0 || e != clash {
			t.Errorf("%s: First: %v, %v", x.name, n, e)
		}
	}
}

func TestBounds(t *testing.T) {
	full := storm.Storm{Wide: 5, High: 5, Fall: 1, A: to(0, 4), B: to(0, 4), Half: to(0, 3), Peak: to(1, 9)}
	for _, x := range []struct {
		name             string
		s                storm.Storm
		a, b, half, peak storm.Range
	}{
		{"no cards", full, to(0, 4), to(0, 4), to(0, 3), to(1, 9)},
		{"single", single(), at(1), at(3), at(1), at(5)},
		{"hail at the beginning", with(full, hail(at(0), at(0), at(9))), at(0), to(0, 4), to(0, 3), at(9)},
		{"hail of some size", with(full, hail(at(4), at(4), to(7, 8))), to(0, 4), to(2, 4), to(0, 3), to(7, 9)},
		{"hail far away", with(full, hail(at(0), at(0), at(6))), to(0, 3), to(0, 4), to(0, 3), to(6, 9)},
		{"no hail at the beginning", with(full, none(at(0), at(2))), to(0, 4), to(0, 4), to(0, 1), to(1, 9)},
		{"hail at both ends", with(full, hail(at(0), at(2), at(9)), hail(at(4), at(1), at(9))), at(2), at(1), to(0, 3), at(9)},
	} {
		want := x.s
		want.A, want.B, want.Half, want.Peak = x.a, x.b, x.half, x.peak
		if b, e := storm.Bounds(x.s); !same(b, want) || e != api.OK {
			t.Errorf("%s: Bounds: %v, %v, not %v", x.name, b, e, want)
		}
	}
}

// hit and missed are cards of one place, of which both cannot be true.
func hit(x, y int) storm.Card { return hail(at(x), at(y), to(0, 9)) }

func missed(x, y int) storm.Card { return none(at(x), at(y)) }

func TestFirstLeaveClash(t *testing.T) {
	free := func(cards ...storm.Card) storm.Storm { return with(chapter(0), cards...) }
	for _, x := range []struct {
		name         string
		s            storm.Storm
		first        int
		leave, clash []int
	}{
		{"the chapter's", chapter(4), 3, ints(1), ints(0, 1, 3)},
		{"one that is never right", chapter(3, never()), 3, ints(3), ints(3)},
		{"a pair", free(hit(0, 0), missed(0, 0)), 1, ints(0), ints(0, 1)},
		{"a pair in the other order", free(missed(0, 0), hit(0, 0)), 1, ints(0), ints(0, 1)},
		{"two against one", free(hit(0, 0), missed(0, 0), hit(0, 0)), 1, ints(1), ints(0, 1)},
		{"one against two", free(hit(0, 0), missed(0, 0), missed(0, 0)), 1, ints(0), ints(0, 1)},
		{"two pairs", free(hit(0, 0), missed(0, 0), hit(4, 4), missed(4, 4)), 1, ints(0, 2), ints(0, 1)},
		{"two pairs, mixed", free(hit(0, 0), hit(4, 4), missed(4, 4), missed(0, 0)), 2, ints(0, 1), ints(0, 3)},
		{"a pair, late", free(missed(0, 2), hit(2, 2), hit(4, 0), missed(4, 0)), 3, ints(2), ints(2, 3)},
		{"three, and then one alone", chapter(4, never()), 3, ints(1, 4), ints(4)},
		{"one alone, and then three", with(chapter(0, never()), chapter(4).Cards...), 0, ints(0, 2), ints(0)},
		{"a later pair before three", chapter(4, missed(4, 3)), 3, ints(1), ints(1, 4)},
		{"all of six", free(never(), never(), never(), never(), never(), never()), 0, ints(0, 1, 2, 3, 4, 5), ints(0)},
		{"the last of six", free(hit(2, 2), hit(2, 2), hit(2, 2), hit(2, 2), hit(2, 2), missed(2, 2)), 5, ints(5), ints(0, 5)},
		{"three pairs", free(hit(0, 0), missed(0, 0), hit(2, 2), missed(2, 2), hit(4, 4), missed(4, 4)), 1, ints(0, 2, 5), ints(0, 1)},
		{"sizes that do not fit", free(hail(at(0), at(0), at(3)), hail(at(0), at(0), at(2))), 1, ints(0), ints(0, 1)},
	} {
		if n, e := storm.First(x.s); n != x.first || e != api.OK {
			t.Errorf("%s: First: %d, %v", x.name, n, e)
		}
		if l, e := storm.Leave(x.s); !slices.Equal(l, x.leave) || e != api.OK {
			t.Errorf("%s: Leave: %v, %v", x.name, l, e)
		}
		if l, e := storm.Clash(x.s); !slices.Equal(l, x.clash) || e != api.OK {
			t.Errorf("%s: Clash: %v, %v", x.name, l, e)
		}
	}
}

func TestBest(t *testing.T) {
	small := storm.Storm{Wide: 2, High: 3, A: to(1, 2), B: to(0, 1), Peak: at(1)}
	peaks := small
	peaks.Peak = to(1, 9)
	for _, x := range []struct {
		name        string
		s           storm.Storm
		x, y, worst int
	}{
		{"of two places the one with the minimum x", small, 0, 1, 2},
		{"truths of several peaks", peaks, 0, 1, 18},
		{"of one x the minimum y", storm.Storm{Wide: 2, High: 2, A: to(0, 1), B: to(0, 1), Peak: at(1)}, 0, 0, 2},
		{"a single truth", single(), 0, 0, 1},
		{"nothing can be told", storm.Storm{Wide: 3, High: 1, Half: to(0, 3), Peak: to(1, 3)}, 0, 0, 12},
		{"no cards", chapter(0), 1, 1, 13},
		{"two cards", chapter(2), 2, 1, 2},
		{"the last place", storm.Storm{Wide: 2, High: 4, A: at(0), B: to(2, 3), Peak: at(1)}, 1, 2, 1},
		{"by width", storm.Storm{Wide: 2, High: 4, A: at(0), B: at(0), Half: to(0, 3), Peak: at(1)}, 0, 2, 2},
	} {
		if px, py, worst, e := storm.Best(x.s); px != x.x || py != x.y || worst != x.worst || e != api.OK {
			t.Errorf("%s: Best: %d, %d, %d, %v", x.name, px, py, worst, e)
		}
	}
}

// TestAtTheLimits has as many places, cards and choices as there can be.
func TestAtTheLimits(t *testing.T) {
	s := with(wide(10, 10, 4, 5), slices.Repeat([]storm.Card{hail(to(0, 11), to(0, 11), to(0, 9))}, 6)...)
	s.Fall = 4
	if b, e := storm.Bounds(s); !same(b, s) || e != api.OK {
		t.Errorf("Bounds: %v, %v", b, e)
	}
	if x, y, worst, e := storm.Best(s); x != 5 || y != 6 || worst != 1070 || e != api.OK {
		t.Errorf("Best: %d, %d, %d, %v", x, y, worst, e)
	}
	if v, e := storm.Sizes(s, 11, 0); v != to(0, 5) || e != api.OK {
		t.Errorf("Sizes: %v, %v", v, e)
	}
	for i := range s.Cards {
		s.Cards[i].Size = at(0)
	}
	if l, e := storm.Leave(s); !slices.Equal(l, ints(0, 1, 2, 3, 4, 5)) || e != api.OK {
		t.Errorf("Leave: %v, %v", l, e)
	}
	s.Cards[0], s.Cards[5] = none(at(0), at(0)), none(at(11), at(11))
	if l, e := storm.Clash(s); !slices.Equal(l, ints(1)) || e != api.OK {
		t.Errorf("Clash: %v, %v", l, e)
	}
}

// everything is what all calls return of a storm, as a text.
func everything(s storm.Storm) string {
	b, e := storm.Bounds(s)
	text := fmt.Sprint(storm.CheckStorm(s), b, e)
	for _, r := range rects(s) {
		v, e := storm.Verdict(s, r)
		text += fmt.Sprint(v, e)
	}
	for x := range s.Wide {
		for y := range s.High {
			v, e := storm.Sizes(s, x, y)
			hit, f := storm.Show(s, rect(at(x), at(y)), true)
			missed, g := storm.Show(s, rect(at(x), at(y)), false)
			text += fmt.Sprint(v, e, f, g, storm.ProveTruth(s, hit), storm.ProveTruth(s, missed))
		}
	}
	n, e := storm.First(s)
	l, f := storm.Leave(s)
	m, g := storm.Clash(s)
	x, y, worst, h := storm.Best(s)
	return text + fmt.Sprint(n, e, l, f, m, g, x, y, worst, h)
}

// TestMemory checks R4: arguments stay as they were, results can be written to, and equal calls return equal results.
func TestMemory(t *testing.T) {
	for _, s := range append(storms(1, 60), chapter(3), chapter(4), untrue()) {
		before := clone(s)
		// Room behind the list shows whether something was appended in it.
		s.Cards = append(make([]storm.Card, 0, 16), s.Cards...)
		first := everything(s)
		if b, e := storm.Bounds(s); e == api.OK {
			if !slices.Equal(b.Cards, before.Cards) {
				t.Fatalf("Bounds of %v: the cards %v", before, b.Cards)
			}
			for i := range b.Cards {
				b.Cards[i] = storm.Card{X: at(77)}
			}
			_ = append(b.Cards, storm.Card{X: at(77)})
		}
		for _, list := range []func(storm.Storm) ([]int, api.Errno){storm.Leave, storm.Clash} {
			l, _ := list(s)
			for i := range l {
				l[i] = 77
			}
		}
		if all := s.Cards[:16]; !slices.Equal(s.Cards, before.Cards) || slices.ContainsFunc(all[len(s.Cards):], func(c storm.Card) bool { return c != storm.Card{} }) {
			t.Fatalf("cards written to: %v", before)
		}
		if everything(s) != first {
			t.Fatalf("not the same again: %v", s)
		}
	}
}

// TestEmptyLists checks R3: nil is the same as a list without elements.
func TestEmptyLists(t *testing.T) {
	for _, s := range []storm.Storm{single(), chapter(0), {Wide: 2, High: 1, Peak: at(1)}, {}} {
		s.Cards = nil
		empty := s
		empty.Cards = []storm.Card{}
		if everything(s) != everything(empty) {
			t.Errorf("nil is not the same as empty: %v", s)
		}
	}
}
