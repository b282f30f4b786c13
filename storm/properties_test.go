package storm_test

import (
	"math/rand/v2"
	"slices"
	"testing"

	"hailstone/api"
	"hailstone/storm"
)

// spanOf is the range from the minimum to the maximum of a number of some choices of the model.
func spanOf(list []int, number func(n int) int) storm.Range {
	r := at(number(list[0]))
	for _, n := range list {
		r = to(min(r.Lo, number(n)), max(r.Hi, number(n)))
	}
	return r
}

// TestStorms checks that there are enough storms of each sort for the other tests.
func TestStorms(t *testing.T) {
	whole, narrowed, untrue, sizes := 0, 0, 0, map[int]int{}
	for _, s := range storms(2, 400) {
		m := modelOf(s)
		switch left := len(m.truths()); {
		case left == 0:
			untrue++
			l, _ := storm.Leave(s)
			sizes[len(l)]++
		case left < len(m.choices):
			narrowed++
		default:
			whole++
		}
	}
	if whole < 50 || narrowed < 100 || untrue < 100 || sizes[1] < 50 || sizes[2] < 10 {
		t.Errorf("%d with all choices, %d with some, %d with none; sizes of the smallest sets: %v", whole, narrowed, untrue, sizes)
	}
}

// TestBoundsOfModel checks P2.1, P2.3 (ProveTruth) and, for the bounds, P2.7.
func TestBoundsOfModel(t *testing.T) {
	for _, s := range storms(3, 400) {
		if e := storm.CheckStorm(s); e != api.OK || checked(s) != api.OK {
			t.Fatalf("CheckStorm of %v: %v", s, e)
		}
		m := modelOf(s)
		all := m.truths()
		for n, tr := range m.choices {
			if got := storm.ProveTruth(s, tr); got != slices.Contains(all, n) {
				t.Fatalf("ProveTruth of %v, %v: %v", s, tr, got)
			}
			for _, other := range []storm.Truth{
				{A: s.A.Lo - 1, B: tr.B, Half: tr.Half, Peak: tr.Peak}, {A: tr.A, B: s.B.Hi + 1, Half: tr.Half, Peak: tr.Peak},
				{A: tr.A, B: tr.B, Half: s.Half.Hi + 1, Peak: tr.Peak}, {A: tr.A, B: tr.B, Half: tr.Half, Peak: s.Peak.Lo - 1},
			} {
				if storm.ProveTruth(s, other) {
					t.Fatalf("ProveTruth of %v, %v", s, other)
				}
			}
		}
		b, e := storm.Bounds(s)
		if len(all) == 0 {
			if e != api.ErrFalse || !same(b, storm.Storm{}) {
				t.Fatalf("Bounds of %v: %v, %v", s, b, e)
			}
			continue
		}
		want := s
		want.A = spanOf(all, func(n int) int { return m.choices[n].A })
		want.B = spanOf(all, func(n int) int { return m.choices[n].B })
		want.Half = spanOf(all, func(n int) int { return m.choices[n].Half })
		want.Peak = spanOf(all, func(n int) int { return m.choices[n].Peak })
		if e != api.OK || !same(b, want) {
			t.Fatalf("Bounds of %v: %v, %v, not %v", s, b, e, want)
		}
	}
}

// TestRectanglesOfModel checks P2.2, P2.3 (Show) and, for verdicts, P2.7.
func TestRectanglesOfModel(t *testing.T) {
	for _, s := range storms(4, 150) {
		m := modelOf(s)
		all := m.truths()
		for _, r := range rects(s) {
			in, out := 0, 0
			for _, n := range all {
				hits := 0
				for x := r.X.Lo; x <= r.X.Hi; x++ {
					for y := r.Y.Lo; y <= r.Y.Hi; y++ {
						if m.skies[n][x][y] > 0 {
							hits++
						}
					}
				}
				if hits > 0 {
					in++
				}
				if hits < (r.X.Hi-r.X.Lo+1)*(r.Y.Hi-r.Y.Lo+1) {
					out++
				}
			}
			checkRectangle(t, s, r, len(all), in, out)
		}
	}
}

// checkRectangle compares with the numbers of truths in which some place of the rectangle is in the path, and is not in it.
func checkRectangle(t *testing.T, s storm.Storm, r storm.Rect, all, in, out int) {
	t.Helper()
	want, wantError := storm.Open, api.OK
	switch {
	case all == 0:
		want, wantError = 0, api.ErrFalse
	case out == 0:
		want = storm.Inside
	case in == 0:
		want = storm.Outside
	}
	if v, e := storm.Verdict(s, r); v != want || e != wantError {
		t.Fatalf("Verdict of %v, %v: %d, %v, not %d", s, r, v, e, want)
	}
	for _, asked := range []struct {
		in    bool
		count int
	}{{true, in}, {false, out}} {
		tr, e := storm.Show(s, r, asked.in)
		switch {
		case all == 0:
			if e != api.ErrFalse || tr != (storm.Truth{}) {
				t.Fatalf("Show of %v, %v, %v: %v, %v", s, r, asked.in, tr, e)
			}
		case asked.count == 0:
			if e != api.ErrNone || tr != (storm.Truth{}) {
				t.Fatalf("Show of %v, %v, %v: %v, %v", s, r, asked.in, tr, e)
			}
		case e != api.OK || !storm.ProveTruth(s, tr) || !shows(s, r, tr, asked.in):
			t.Fatalf("Show of %v, %v, %v: %v, %v", s, r, asked.in, tr, e)
		}
	}
}

func shows(s storm.Storm, r storm.Rect, tr storm.Truth, in bool) bool {
	columns := sky(s, tr)
	for x := r.X.Lo; x <= r.X.Hi; x++ {
		for y := r.Y.Lo; y <= r.Y.Hi; y++ {
			if columns[x][y] > 0 == in {
				return true
			}
		}
	}
	return false
}

// TestPlacesOfModel checks P2.4, P2.6 and, for sizes, P2.7.
func TestPlacesOfModel(t *testing.T) {
	for _, s := range storms(5, 400) {
		m := modelOf(s)
		all := m.truths()
		bestX, bestY, best := 0, 0, len(all)
		for x := range s.Wide {
			for y := range s.High {
				v, e := storm.Sizes(s, x, y)
				if len(all) == 0 {
					if v != at(0) || e != api.ErrFalse {
						t.Fatalf("Sizes of %v at %d, %d: %v, %v", s, x, y, v, e)
					}
					continue
				}
				want := spanOf(all, func(n int) int { return m.skies[n][x][y] })
				if v != want || e != api.OK {
					t.Fatalf("Sizes of %v at %d, %d: %v, %v, not %v", s, x, y, v, e, want)
				}
				in := 0
				for _, n := range all {
					in += min(1, m.skies[n][x][y])
				}
				if worst := max(in, len(all)-in); worst < best {
					bestX, bestY, best = x, y, worst
				}
			}
		}
		want := api.OK
		if len(all) == 0 {
			want = api.ErrFalse
		}
		if x, y, worst, e := storm.Best(s); x != bestX || y != bestY || worst != best || e != want {
			t.Fatalf("Best of %v: %d, %d, %d, %v, not %d, %d, %d", s, x, y, worst, e, bestX, bestY, best)
		}
	}
}

// TestListsOfModel checks P2.5: of all lists, the shorter ones first, Leave and Clash are the first ones that are as they must be.
func TestListsOfModel(t *testing.T) {
	for _, s := range storms(6, 400) {
		m := modelOf(s)
		first, e := 0, api.ErrNone
		for n := range s.Cards {
			cards := ints()
			for i := range n + 1 {
				cards = append(cards, i)
			}
			if m.clash(cards...) {
				first, e = n, api.OK
				break
			}
		}
		if n, f := storm.First(s); n != first || f != e {
			t.Fatalf("First of %v: %d, %v, not %d, %v", s, n, f, first, e)
		}
		var leave, clash []int
		lists := subsets(len(s.Cards))
		if i := slices.IndexFunc(lists, func(l []int) bool { return len(m.truths(l...)) > 0 }); i >= 0 {
			leave = lists[i]
		}
		if i := slices.IndexFunc(lists, func(l []int) bool { return m.clash(l...) }); i >= 0 {
			clash = lists[i]
		}
		if l, f := storm.Leave(s); !slices.Equal(l, leave) || f != api.OK {
			t.Fatalf("Leave of %v: %v, %v, not %v", s, l, f, leave)
		}
		if l, f := storm.Clash(s); !slices.Equal(l, clash) || f != e {
			t.Fatalf("Clash of %v: %v, %v, not %v, %v", s, l, f, clash, e)
		}
	}
}

// TestInEachTruth checks P2.7 by the calls alone.
func TestInEachTruth(t *testing.T) {
	for _, s := range storms(7, 150) {
		b, e := storm.Bounds(s)
		if e != api.OK {
			continue
		}
		for _, tr := range choices(s) {
			if !storm.ProveTruth(s, tr) {
				continue
			}
			if !has(b.A, tr.A) || !has(b.B, tr.B) || !has(b.Half, tr.Half) || !has(b.Peak, tr.Peak) {
				t.Fatalf("Bounds of %v: %v without %v", s, b, tr)
			}
			fixed := s
			fixed.A, fixed.B, fixed.Half, fixed.Peak = at(tr.A), at(tr.B), at(tr.Half), at(tr.Peak)
			for x := range s.Wide {
				for y := range s.High {
					place := rect(at(x), at(y))
					sizes, _ := storm.Sizes(s, x, y)
					if size, e := storm.Sizes(fixed, x, y); !inside(size, sizes) || size.Lo != size.Hi || e != api.OK {
						t.Fatalf("Sizes of %v at %d, %d: %v, and in %v %v, %v", s, x, y, sizes, tr, size, e)
					}
					v, _ := storm.Verdict(s, place)
					if w, e := storm.Verdict(fixed, place); v != storm.Open && v != w || w == storm.Open || e != api.OK {
						t.Fatalf("Verdict of %v at %d, %d: %d, and in %v %d, %v", s, x, y, v, tr, w, e)
					}
				}
			}
		}
	}
}

// TestRightInSomeTruth checks P2.8.
func TestRightInSomeTruth(t *testing.T) {
	for _, s := range storms(8, 200) {
		m := modelOf(s)
		for _, marks := range m.right {
			kept := ints()
			for i, mark := range marks {
				if mark {
					kept = append(kept, i)
				}
			}
			some := only(s, kept...)
			if l, e := storm.Leave(some); len(l) != 0 || e != api.OK {
				t.Fatalf("Leave of %v: %v, %v", some, l, e)
			}
			if l, e := storm.Clash(some); len(l) != 0 || e != api.ErrNone {
				t.Fatalf("Clash of %v: %v, %v", some, l, e)
			}
			if n, e := storm.First(some); n != 0 || e != api.ErrNone {
				t.Fatalf("First of %v: %v, %v", some, n, e)
			}
		}
	}
}

// compare checks that no range of the first storm is wider than that of the second one, and that what is inside or outside in the second one is so in the first one. Both have a truth.
func compare(t *testing.T, less, more storm.Storm) {
	t.Helper()
	b, e := storm.Bounds(less)
	c, f := storm.Bounds(more)
	if e != api.OK || f != api.OK {
		t.Fatalf("Bounds of %v: %v; of %v: %v", less, e, more, f)
	}
	if !inside(b.A, c.A) || !inside(b.B, c.B) || !inside(b.Half, c.Half) || !inside(b.Peak, c.Peak) {
		t.Fatalf("Bounds: %v of %v, %v of %v", b, less, c, more)
	}
	for x := range more.Wide {
		for y := range more.High {
			v, _ := storm.Sizes(less, x, y)
			if w, _ := storm.Sizes(more, x, y); !inside(v, w) {
				t.Fatalf("Sizes at %d, %d: %v of %v, %v of %v", x, y, v, less, w, more)
			}
		}
	}
	for _, r := range rects(more) {
		v, _ := storm.Verdict(less, r)
		if w, _ := storm.Verdict(more, r); w != storm.Open && v != w {
			t.Fatalf("Verdict of %v: %d of %v, %d of %v", r, v, less, w, more)
		}
	}
}

// TestOneMoreCard checks P2.9.
func TestOneMoreCard(t *testing.T) {
	r := rand.New(rand.NewPCG(9, 9))
	compared, grown := 0, 0
	for _, s := range storms(9, 250) {
		if len(s.Cards) == api.MaxStormCards {
			continue
		}
		tr := choices(s)[r.IntN(len(choices(s)))]
		more := with(s, someCard(r, sky(s, tr)))
		before, _ := storm.Leave(s)
		after, e := storm.Leave(more)
		if e != api.OK || len(after) < len(before) || len(after) > len(before)+1 {
			t.Fatalf("Leave of %v: %v; of %v: %v, %v", s, before, more, after, e)
		}
		if len(after) > len(before) {
			grown++
		}
		if len(after) == 0 {
			compared++
			compare(t, more, s)
		}
	}
	if compared < 50 || grown < 20 {
		t.Errorf("%d storms compared, %d with one more to leave out", compared, grown)
	}
}

// widened is the storm with one range that is wider, unless this makes too many choices.
func widened(r *rand.Rand, s storm.Storm) storm.Storm {
	s = clone(s)
	type ends struct {
		of        *storm.Range
		low, high int
	}
	list := []ends{{&s.A, 0, s.High - 1}, {&s.B, 0, s.High - 1}, {&s.Half, 0, 3}, {&s.Peak, 1, 9}}
	for i := range s.Cards {
		c := &s.Cards[i]
		list = append(list, ends{&c.X, 0, s.Wide - 1}, ends{&c.Y, 0, s.High - 1})
		if c.Hail {
			list = append(list, ends{&c.Size, 0, 9})
		}
	}
	x := list[r.IntN(len(list))]
	*x.of = to(max(x.low, x.of.Lo-r.IntN(3)), min(x.high, x.of.Hi+r.IntN(3)))
	return s
}

// TestWider checks P2.10.
func TestWider(t *testing.T) {
	r := rand.New(rand.NewPCG(10, 10))
	compared, changed := 0, 0
	for _, s := range storms(10, 400) {
		more := widened(r, s)
		before, _ := storm.Leave(s)
		after, e := storm.Leave(more)
		if e != api.OK || len(after) > len(before) {
			t.Fatalf("Leave of %v: %v; of %v: %v, %v", s, before, more, after, e)
		}
		if !same(s, more) {
			changed++
		}
		if len(before) == 0 {
			compared++
			compare(t, s, more)
		}
	}
	if compared < 50 || changed < 50 {
		t.Errorf("%d storms compared, %d wider", compared, changed)
	}
}

// TestFirstOne checks P2.11.
func TestFirstOne(t *testing.T) {
	found := 0
	for _, s := range storms(11, 400) {
		n, e := storm.First(s)
		if e != api.OK {
			if e != api.ErrNone || !hasTruth(t, s) {
				t.Fatalf("First of %v: %v", s, e)
			}
			continue
		}
		found++
		before, upTo := s, s
		before.Cards, upTo.Cards = s.Cards[:n], s.Cards[:n+1]
		if !hasTruth(t, before) || hasTruth(t, upTo) {
			t.Fatalf("First of %v: %d", s, n)
		}
	}
	if found < 50 {
		t.Errorf("%d first wrong cards", found)
	}
}

// TestSmallestClash checks P2.12.
func TestSmallestClash(t *testing.T) {
	sizes := map[int]int{}
	for _, s := range storms(12, 500) {
		l, e := storm.Clash(s)
		if hasTruth(t, s) {
			if len(l) != 0 || e != api.ErrNone {
				t.Fatalf("Clash of %v: %v, %v", s, l, e)
			}
			continue
		}
		sizes[len(l)]++
		if e != api.OK || hasTruth(t, only(s, l...)) {
			t.Fatalf("Clash of %v: %v, %v", s, l, e)
		}
		for i := range l {
			if !hasTruth(t, only(s, slices.Delete(slices.Clone(l), i, i+1)...)) {
				t.Fatalf("Clash of %v: %v, also without %d", s, l, l[i])
			}
		}
		if out, _ := storm.Leave(s); !common(out, l) {
			t.Fatalf("Clash of %v: %v, and Leave %v", s, l, out)
		}
	}
	if sizes[1] < 20 || sizes[2] < 20 || sizes[3] < 1 {
		t.Errorf("sizes of the clashes: %v", sizes)
	}
}

// TestLeftOut checks P2.13: any shorter list is tried, and any list that is lexicographically before it.
func TestLeftOut(t *testing.T) {
	for _, s := range storms(13, 400) {
		l, e := storm.Leave(s)
		if e != api.OK {
			t.Fatalf("Leave of %v: %v", s, e)
		}
		for _, list := range subsets(len(s.Cards)) {
			if slices.Equal(list, l) {
				break
			}
			if hasTruth(t, drop(s, list...)) {
				t.Fatalf("Leave of %v: %v, not %v", s, l, list)
			}
		}
		if !hasTruth(t, drop(s, l...)) {
			t.Fatalf("Leave of %v: %v", s, l)
		}
	}
}

// TestPartsOfRectangles checks P2.14.
func TestPartsOfRectangles(t *testing.T) {
	parts, wholes := 0, 0
	for _, s := range storms(14, 120) {
		if !hasTruth(t, s) {
			continue
		}
		verdicts := map[storm.Rect]int{}
		for _, r := range rects(s) {
			verdicts[r], _ = storm.Verdict(s, r)
		}
		for r, v := range verdicts {
			for _, cut := range cuts(r) {
				one, other := verdicts[cut[0]], verdicts[cut[1]]
				if v != storm.Open {
					parts++
					if one != v || other != v {
						t.Fatalf("Verdict of %v, %v: %d, of its parts %d and %d", s, r, v, one, other)
					}
				}
				if one == other && one != storm.Open {
					wholes++
					if v != one {
						t.Fatalf("Verdict of %v, %v: %d, of both parts %d", s, r, v, one)
					}
				}
			}
		}
	}
	if parts < 1000 || wholes < 1000 {
		t.Errorf("%d parts, %d wholes", parts, wholes)
	}
}

// cuts are all pairs of rectangles that together are the given one, one beside or above the other.
func cuts(r storm.Rect) [][2]storm.Rect {
	var list [][2]storm.Rect
	for x := r.X.Lo; x < r.X.Hi; x++ {
		list = append(list, [2]storm.Rect{rect(to(r.X.Lo, x), r.Y), rect(to(x+1, r.X.Hi), r.Y)})
	}
	for y := r.Y.Lo; y < r.Y.Hi; y++ {
		list = append(list, [2]storm.Rect{rect(r.X, to(r.Y.Lo, y)), rect(r.X, to(y+1, r.Y.Hi))})
	}
	return list
}

// remain is how many truths the storm has by ProveTruth.
func remain(s storm.Storm) int {
	n := 0
	for _, tr := range choices(s) {
		if storm.ProveTruth(s, tr) {
			n++
		}
	}
	return n
}

// TestBestPlace checks P2.15: at the best place all reports are tried, and any other place is.
func TestBestPlace(t *testing.T) {
	tried := 0
	for _, s := range storms(15, 120) {
		if len(s.Cards) == api.MaxStormCards || !hasTruth(t, s) {
			continue
		}
		tried++
		bestX, bestY, worst, e := storm.Best(s)
		if e != api.OK {
			t.Fatalf("Best of %v: %v", s, e)
		}
		for low := range 10 {
			for high := low; high < 10; high++ {
				if n := remain(with(s, hail(at(bestX), at(bestY), to(low, high)))); n > worst {
					t.Fatalf("Best of %v: %d, %d, %d, and %d remain", s, bestX, bestY, worst, n)
				}
			}
		}
		for x := range s.Wide {
			for y := range s.High {
				n := max(remain(with(s, hit(x, y))), remain(with(s, missed(x, y))))
				if x == bestX && y == bestY && n != worst {
					t.Fatalf("Best of %v: %d, %d, %d, not %d", s, x, y, worst, n)
				}
				before := x < bestX || x == bestX && y < bestY
				if n < worst || before && n == worst {
					t.Fatalf("Best of %v: %d, %d, %d, not %d, %d, %d", s, bestX, bestY, worst, x, y, n)
				}
			}
		}
	}
	if tried < 50 {
		t.Errorf("%d storms", tried)
	}
}

func flip(s storm.Storm, rows storm.Range) storm.Range { return to(s.High-1-rows.Hi, s.High-1-rows.Lo) }

// TestMirror checks P2.16.
func TestMirror(t *testing.T) {
	for _, s := range storms(16, 150) {
		down := clone(s)
		down.A, down.B = flip(s, s.A), flip(s, s.B)
		for i, c := range s.Cards {
			down.Cards[i].Y = flip(s, c.Y)
		}
		b, e := storm.Bounds(s)
		if e == api.OK {
			b.A, b.B, b.Cards = flip(s, b.A), flip(s, b.B), down.Cards
		}
		if c, f := storm.Bounds(down); !same(b, c) || e != f {
			t.Fatalf("Bounds: %v of %v, %v of %v", b, s, c, down)
		}
		for _, r := range rects(s) {
			v, e := storm.Verdict(s, r)
			if w, f := storm.Verdict(down, rect(r.X, flip(s, r.Y))); v != w || e != f {
				t.Fatalf("Verdict of %v: %d, %v of %v, %d, %v of %v", r, v, e, s, w, f, down)
			}
		}
		for x := range s.Wide {
			for y := range s.High {
				v, e := storm.Sizes(s, x, y)
				if w, f := storm.Sizes(down, x, s.High-1-y); v != w || e != f {
					t.Fatalf("Sizes at %d, %d: %v of %v, %v of %v", x, y, v, s, w, down)
				}
			}
		}
		sameLists(t, s, down)
	}
}

// sameLists checks that two storms whose cards are right in as many truths lead to the same lists, and to places that are as good.
func sameLists(t *testing.T, s, other storm.Storm) {
	t.Helper()
	n, e := storm.First(s)
	if m, f := storm.First(other); n != m || e != f {
		t.Fatalf("First: %d of %v, %d of %v", n, s, m, other)
	}
	l, _ := storm.Leave(s)
	if k, _ := storm.Leave(other); !slices.Equal(l, k) {
		t.Fatalf("Leave: %v of %v, %v of %v", l, s, k, other)
	}
	l, _ = storm.Clash(s)
	if k, _ := storm.Clash(other); !slices.Equal(l, k) {
		t.Fatalf("Clash: %v of %v, %v of %v", l, s, k, other)
	}
	_, _, v, _ := storm.Best(s)
	if _, _, w, _ := storm.Best(other); v != w {
		t.Fatalf("Best: %d of %v, %d of %v", v, s, w, other)
	}
}

// TestAnyOrder checks P7: the cards are listed in other orders.
func TestAnyOrder(t *testing.T) {
	r := rand.New(rand.NewPCG(17, 17))
	for _, s := range storms(17, 150) {
		other := clone(s)
		r.Shuffle(len(other.Cards), func(i, k int) { other.Cards[i], other.Cards[k] = other.Cards[k], other.Cards[i] })
		l, _ := storm.Leave(s)
		if k, _ := storm.Leave(other); len(l) != len(k) {
			t.Fatalf("Leave: %v of %v, %v of %v", l, s, k, other)
		}
		l, _ = storm.Clash(s)
		if k, _ := storm.Clash(other); len(l) != len(k) {
			t.Fatalf("Clash: %v of %v, %v of %v", l, s, k, other)
		}
		if hasTruth(t, s) != hasTruth(t, other) {
			t.Fatalf("a truth of %v, or of %v", s, other)
		}
		if hasTruth(t, s) {
			compare(t, s, other)
			compare(t, other, s)
		}
		x, y, worst, _ := storm.Best(s)
		if p, q, n, _ := storm.Best(other); x != p || y != q || worst != n {
			t.Fatalf("Best: %d, %d, %d of %v, %d, %d, %d of %v", x, y, worst, s, p, q, n, other)
		}
	}
}
