package zone_test

import (
	"fmt"
	"math/rand/v2"
	"slices"
	"testing"

	"hailstone/api"
	"hailstone/zone"
)

// TestHistories checks that there are enough zones of each sort for the other tests.
func TestHistories(t *testing.T) {
	sorts := map[string]int{}
	for _, h := range histories(2, 1000, 5) {
		if e := zone.CheckZone(h.r, h.z); e != api.OK {
			t.Fatalf("CheckZone of %v: %v", h, e)
		}
		m := modelOf(h)
		some := func(is func(y zone.Year) bool) bool { return slices.ContainsFunc(h.z.Years, is) }
		can := func(kinds string) bool {
			return some(func(y zone.Year) bool {
				l := []byte(letters(h.r, y))
				slices.Sort(l)
				return string(l) == kinds
			})
		}
		longest := 0
		for _, l := range m.lies {
			longest = max(longest, len(l))
		}
		for sort, is := range map[string]bool{
			"no years":                 len(h.z.Years) == 0,
			"six years":                len(h.z.Years) == 6,
			"one class":                h.r.Classes == 1,
			"six classes":              h.r.Classes == 6,
			"no Rest":                  h.r.Rest == 0,
			"the greatest Rest":        h.r.Rest == 4,
			"equal prices":             m.next.Lo == m.next.Hi && len(m.reached(h)) > 1,
			"an exempt year":           some(func(y zone.Year) bool { return y.Exempt }),
			"too few parcels":          some(func(y zone.Year) bool { return y.Parcels < h.r.Fewest }),
			"a good year":              can("g"),
			"a bad year":               can("b"),
			"a year that is neither":   can("n"),
			"good or neither":          can("gn"),
			"neither or bad":           can("bn"),
			"good or bad":              can("bg"),
			"any kind":                 can("bgn"),
			"no year decides":          len(m.deciding) == 0 && len(h.z.Years) > 0,
			"three years decide":       len(m.deciding) > 2,
			"a year moves always":      slices.Contains(m.moves, zone.Always),
			"a year moves never":       slices.Contains(m.moves, zone.Never),
			"a year moves perhaps":     slices.Contains(m.moves, zone.Perhaps),
			"it surely has two kinds":  slices.Contains(m.deciding, 0) && m.moves[0] == zone.Always,
			"three classes":            len(m.reached(h)) > 2,
			"five classes":             len(m.reached(h)) > 4,
			"not each class between":   hasGap(m.reached(h)),
			"a class can not be had":   len(m.lies) < h.r.Classes,
			"two years must be false":  longest == 2,
			"four years must be false": longest >= 4,
			"not the first ones":       slices.ContainsFunc(slices.Sorted(mapKeys(m.lies)), func(n int) bool { return !isBeginning(m.lies[n]) }),
		} {
			if is {
				sorts[sort]++
			}
		}
	}
	for sort, least := range map[string]int{"no years": 50, "six years": 100, "one class": 50, "six classes": 100, "no Rest": 80, "the greatest Rest": 80, "equal prices": 20, "an exempt year": 200, "too few parcels": 150, "a good year": 300, "a bad year": 300, "a year that is neither": 100, "good or neither": 100, "neither or bad": 100, "good or bad": 10, "any kind": 50, "no year decides": 100, "three years decide": 100, "a year moves always": 200, "a year moves never": 300, "a year moves perhaps": 300, "it surely has two kinds": 4, "three classes": 100, "five classes": 10, "not each class between": 20, "a class can not be had": 200, "two years must be false": 100, "four years must be false": 12, "not the first ones": 100} {
		if sorts[sort] < least {
			t.Errorf("%s: %d", sort, sorts[sort])
		}
	}
}

func mapKeys(m map[int][]int) func(yield func(int) bool) {
	return func(yield func(int) bool) {
		for n := range m {
			if !yield(n) {
				return
			}
		}
	}
}

// hasGap reports whether a number is missing between others.
func hasGap(l []int) bool { return l[len(l)-1]-l[0] >= len(l) }

// isBeginning reports whether the list is 0, 1, 2 and so on.
func isBeginning(l []int) bool {
	for i, n := range l {
		if i != n {
			return false
		}
	}
	return true
}

// TestModel checks P11.2 to P11.4.
func TestModel(t *testing.T) {
	for _, h := range histories(3, 1500, 5) {
		if m, a := modelOf(h), ask(t, h); fmt.Sprint(a) != fmt.Sprint(m) {
			t.Fatalf("the calls return %v of %v, not %v", a, h, m)
		}
	}
}

// TestPlayOfModel checks P11.1 in some truths.
func TestPlayOfModel(t *testing.T) {
	r := rand.New(rand.NewPCG(4, 4))
	for _, h := range histories(4, 1000, 5) {
		for range 10 {
			truth := someTruth(r, h)
			got, want := play(t, h, truth), classesOf(h, wordOf(h, truth))
			if !slices.Equal(got, want) {
				t.Fatalf("Play of %v, %v: %v, not %v", h, truth, got, want)
			}
			for class := range h.r.Classes {
				if is := zone.ProveClass(h.r, h.z, truth, class); is != (class == lastOf(h, want)) {
					t.Fatalf("ProveClass of %v, %v, %d: %v", h, truth, class, is)
				}
			}
		}
	}
}

// TestInEachTruth checks P11.5 and P11.10 by the calls alone.
func TestInEachTruth(t *testing.T) {
	all := known(5, 500)
	if len(all) != 500 {
		t.Errorf("%d zones", len(all))
	}
	for _, h := range all {
		a := ask(t, h)
		n := len(h.z.Years)
		seen := answers{reach: make([][]int, n), moves: make([]int, n), deciding: a.deciding, lies: a.lies}
		moved, stayed := make([]bool, n), make([]bool, n)
		for i, truth := range truths(h) {
			before := h.z.First
			for k, class := range play(t, h, truth) {
				if class < before-1 || class > before+1 || class < 0 || class >= h.r.Classes {
					t.Fatalf("Play of %v, %v: %d after %d", h, truth, class, before)
				}
				if !slices.Contains(seen.reach[k], class) {
					seen.reach[k] = append(seen.reach[k], class)
				}
				moved[k], stayed[k] = moved[k] || class != before, stayed[k] || class == before
				before = class
			}
			seen.next = widen(seen.next, h.r.Price[before], i == 0)
		}
		for k := range n {
			slices.Sort(seen.reach[k])
			seen.moves[k] = kindOfMove(moved[k], stayed[k])
		}
		if fmt.Sprint(a) != fmt.Sprint(seen) {
			t.Fatalf("the calls return %v of %v, not %v", a, h, seen)
		}
	}
}

// without is the zone without some of its years.
func without(h history, out func(n int, y zone.Year) bool) history {
	var rest []zone.Year
	for n, y := range h.z.Years {
		if !out(n, y) {
			rest = append(rest, y)
		}
	}
	h.z.Years = rest
	return h
}

// TestWhatDoesNotCount checks P11.6: the years that do not count change nothing, and are left out.
func TestWhatDoesNotCount(t *testing.T) {
	r := rand.New(rand.NewPCG(6, 6))
	passed := 0
	for _, h := range histories(6, 1000, 5) {
		counting := without(h, func(_ int, y zone.Year) bool { return !counts(h.r, y) })
		a, b := ask(t, h), ask(t, counting)
		truth, short := someTruth(r, h), zone.Truth{}
		classes := play(t, h, truth)
		var now []int // the years that count
		var left []int
		for n, y := range h.z.Years {
			if counts(h.r, y) {
				now, left = append(now, n), append(left, classes[n])
				short.Losses, short.Premiums = append(short.Losses, truth.Losses[n]), append(short.Premiums, truth.Premiums[n])
				continue
			}
			passed++
			before, reach := h.z.First, ints(h.z.First)
			if n > 0 {
				before, reach = classes[n-1], a.reach[n-1]
			}
			if classes[n] != before || !slices.Equal(a.reach[n], reach) || a.moves[n] != zone.Never || slices.Contains(a.deciding, n) {
				t.Fatalf("the year %d of %v: %v, %v", n, h, classes, a)
			}
		}
		if l := play(t, counting, short); !slices.Equal(l, left) || a.next != b.next {
			t.Fatalf("Play of %v: %v, and of %v: %v", h, classes, counting, l)
		}
		checkRenumbered(t, h, now, a, b)
	}
	if passed < 400 {
		t.Errorf("%d years do not count", passed)
	}
}

// checkRenumbered checks that the first answers are those of the zone, the second ones those of its years that count, which have these numbers.
func checkRenumbered(t *testing.T, h history, numbers []int, a, b answers) {
	t.Helper()
	renumber := func(l []int) []int {
		var all []int
		for _, i := range l {
			all = append(all, numbers[i])
		}
		return all
	}
	for i, n := range numbers {
		if !slices.Equal(a.reach[n], b.reach[i]) || a.moves[n] != b.moves[i] {
			t.Fatalf("the year %d of %v: %v, and %v", n, h, a, b)
		}
	}
	if !slices.Equal(a.deciding, renumber(b.deciding)) || len(a.lies) != len(b.lies) {
		t.Fatalf("the calls return %v of %v, and %v", a, h, b)
	}
	for class, l := range b.lies {
		if !slices.Equal(a.lies[class], renumber(l)) {
			t.Fatalf("the calls return %v of %v, and %v", a, h, b)
		}
	}
}

// TestSure checks P11.7.
func TestSure(t *testing.T) {
	sure := 0
	for _, h := range histories(7, 1000, 1) {
		a := ask(t, h)
		if len(a.deciding) > 0 {
			continue
		}
		sure += len(a.reach)
		for n, l := range a.reach {
			if len(l) != 1 || a.moves[n] == zone.Perhaps {
				t.Fatalf("the calls return %v of %v", a, h)
			}
		}
	}
	if sure < 400 {
		t.Errorf("%d years", sure)
	}
}

// shifted is the range with greater numbers, but none that are too great.
func shifted(x zone.Range, more int) zone.Range {
	return to(min(10000, x.Lo+more), min(10000, x.Hi+more))
}

// TestWorse checks P11.8.
func TestWorse(t *testing.T) {
	r := rand.New(rand.NewPCG(8, 8))
	up, down := 0, 0
	for _, h := range histories(8, 1500, 5) {
		last := len(h.z.Years) - 1
		if last < 0 {
			continue
		}
		worse, better := clone(h), clone(h)
		y, z := &worse.z.Years[last], &better.z.Years[last]
		more := 1 + r.IntN(ints(3, 20, 2000)[r.IntN(3)])
		y.Losses, z.Premiums = shifted(y.Losses, more), shifted(z.Premiums, more)
		if r.IntN(3) == 0 { // one end alone
			y.Losses = to(h.z.Years[last].Losses.Lo, min(10000, h.z.Years[last].Losses.Lo+5))
		}
		a, b, c := ask(t, h).reach[last], ask(t, worse).reach[last], ask(t, better).reach[last]
		if b[0] < a[0] || b[len(b)-1] < a[len(a)-1] || c[0] > a[0] || c[len(c)-1] > a[len(a)-1] {
			t.Fatalf("Reach of %v: %v, of %v: %v, of %v: %v", h, a, worse, b, better, c)
		}
		if b[0] > a[0] || b[len(b)-1] > a[len(a)-1] {
			up++
		}
		if c[0] < a[0] || c[len(c)-1] < a[len(a)-1] {
			down++
		}
	}
	if up < 150 || down < 50 {
		t.Errorf("%d zones are worse, %d better", up, down)
	}
}

// wider widens some ranges.
func wider(r *rand.Rand, h history) history {
	h = clone(h)
	more := func(x *zone.Range) {
		for range r.IntN(4) {
			if x.Hi-x.Lo < 5 && x.Lo > 0 && r.IntN(2) == 0 {
				x.Lo--
			}
			if x.Hi-x.Lo < 5 && x.Hi < 10000 && r.IntN(2) == 0 {
				x.Hi++
			}
		}
	}
	for i := range h.z.Years {
		more(&h.z.Years[i].Losses)
		more(&h.z.Years[i].Premiums)
	}
	return h
}

// TestWider checks P11.9.
func TestWider(t *testing.T) {
	r := rand.New(rand.NewPCG(9, 9))
	changed, fewer := 0, 0
	for _, h := range histories(9, 1500, 3) {
		more := wider(r, h)
		a, b := ask(t, h), ask(t, more)
		for n, l := range a.reach {
			for _, class := range l {
				if !slices.Contains(b.reach[n], class) {
					t.Fatalf("Reach of %v: %v, and of %v: %v", h, a, more, b)
				}
			}
			if len(b.reach[n]) > len(l) {
				changed++
			}
			if a.moves[n] == zone.Perhaps && b.moves[n] != zone.Perhaps {
				t.Fatalf("Moves of %v: %v, and of %v: %v", h, a, more, b)
			}
		}
		for class, l := range a.lies {
			wide, found := b.lies[class]
			if !found || len(wide) > len(l) {
				t.Fatalf("False of %v: %v, and of %v: %v", h, a, more, b)
			}
			if len(wide) < len(l) {
				fewer++
			}
		}
		if len(a.lies) != len(b.lies) || b.next.Lo > a.next.Lo || b.next.Hi < a.next.Hi {
			t.Fatalf("the calls return %v of %v, and %v of %v", a, h, b, more)
		}
	}
	if changed < 300 || fewer < 150 {
		t.Errorf("%d years changed, %d lists of false years are shorter", changed, fewer)
	}
}

// ofKind is the year with numbers by which it is surely good, bad, or neither, if Good is not 0.
func ofKind(y zone.Year, kind int) zone.Year {
	y.Losses, y.Premiums = at(0), at(0)
	switch kind {
	case 0:
		y.Premiums = at(10000)
	case 1:
		y.Losses = at(10000)
	}
	return y
}

// hasClass reports whether the zone can have the class if the years are of any kinds, by asking Reach for all kinds of them.
func hasClass(t *testing.T, h history, class int, lies []int) bool {
	t.Helper()
	if len(lies) == 0 {
		return slices.Contains(reached(t, h), class)
	}
	for kind := range 3 {
		other := clone(h)
		other.z.Years[lies[0]] = ofKind(h.z.Years[lies[0]], kind)
		if hasClass(t, other, class, lies[1:]) {
			return true
		}
	}
	return false
}

// TestFalseYears checks P11.11 by the calls alone: any list that is shorter is tried, and any that is as long, up to the one that is returned.
func TestFalseYears(t *testing.T) {
	lists := 0
	for _, h := range histories(11, 150, 5) {
		h.r.Good, h.r.Bad = max(1, h.r.Good), max(1, h.r.Bad)
		for class, l := range ask(t, h).lies {
			if len(l) > 3 {
				continue
			}
			lists++
			for _, list := range subsets(len(h.z.Years)) {
				is := hasClass(t, h, class, list)
				if slices.Equal(list, l) {
					if !is {
						t.Fatalf("False of %v, %d: %v, but it can not have it", h, class, l)
					}
					break
				}
				if is {
					t.Fatalf("False of %v, %d: %v, but %v will do", h, class, l, list)
				}
			}
		}
	}
	if lists < 250 {
		t.Errorf("%d lists", lists)
	}
}

// TestTooFar checks the end of P11.11: a class that is too far from First can never be had, each other one can.
func TestTooFar(t *testing.T) {
	for _, h := range histories(12, 1000, 5) {
		counting := len(without(h, func(_ int, y zone.Year) bool { return !counts(h.r, y) }).z.Years)
		a := ask(t, h)
		for class := range h.r.Classes {
			_, found := a.lies[class]
			if near := class >= h.z.First-counting && class <= h.z.First+counting; found != near {
				t.Fatalf("False of %v for %d: %v", h, class, found)
			}
		}
	}
}

// TestScale checks P11.12.
func TestScale(t *testing.T) {
	r := rand.New(rand.NewPCG(12, 12))
	for _, h := range histories(13, 1000, 5) {
		truth, greatest := someTruth(r, h), 1
		for n := range h.z.Years {
			greatest = max(greatest, truth.Losses[n], truth.Premiums[n])
		}
		classes := play(t, h, truth)
		for _, times := range ints(1, 10000/greatest, 1+r.IntN(10000/greatest)) {
			scaled, all := clone(h), zone.Truth{}
			for n := range h.z.Years {
				all.Losses, all.Premiums = append(all.Losses, times*truth.Losses[n]), append(all.Premiums, times*truth.Premiums[n])
				scaled.z.Years[n].Losses, scaled.z.Years[n].Premiums = at(all.Losses[n]), at(all.Premiums[n])
			}
			if l := play(t, scaled, all); !slices.Equal(l, classes) {
				t.Fatalf("Play of %v, %v: %v, and of %v: %v", h, truth, classes, all, l)
			}
		}
	}
}

// TestNoRest checks P11.13.
func TestNoRest(t *testing.T) {
	r := rand.New(rand.NewPCG(13, 13))
	smaller := 0
	for _, h := range histories(14, 1500, 5) {
		truth := someTruth(r, h)
		classes := play(t, h, truth)
		for h.r.Rest > 0 {
			h.r.Rest--
			less := play(t, h, truth)
			for n := range less {
				if less[n] > classes[n] {
					t.Fatalf("Play of %v, %v: %v, with a greater Rest %v", h, truth, less, classes)
				}
			}
			if !slices.Equal(less, classes) {
				smaller++
			}
			classes = less
		}
		before := h.z.First
		for n, kind := range wordOf(h, truth) {
			if kind == 'g' && classes[n] != max(0, before-1) {
				t.Fatalf("Play of %v, %v: %v", h, truth, classes)
			}
			before = classes[n]
		}
	}
	if smaller < 150 {
		t.Errorf("%d zones changed", smaller)
	}
}

// TestPrefix checks P11.14.
func TestPrefix(t *testing.T) {
	r := rand.New(rand.NewPCG(14, 14))
	for _, h := range histories(15, 500, 5) {
		truth, a := someTruth(r, h), ask(t, h)
		classes := play(t, h, truth)
		for n := range h.z.Years {
			short := h
			short.z.Years = h.z.Years[:n]
			b := ask(t, short)
			l := play(t, short, zone.Truth{Losses: truth.Losses[:n], Premiums: truth.Premiums[:n]})
			deciding := slices.DeleteFunc(slices.Clone(a.deciding), func(year int) bool { return year >= n })
			if fmt.Sprint(a.reach[:n]) != fmt.Sprint(b.reach) || !slices.Equal(a.moves[:n], b.moves) || !slices.Equal(deciding, b.deciding) || !slices.Equal(classes[:n], l) {
				t.Fatalf("the calls return %v, %v of %v, and %v, %v of %v", a, classes, h, b, l, short)
			}
		}
	}
}

// TestAgain checks that equal calls return equal results.
func TestAgain(t *testing.T) {
	r := rand.New(rand.NewPCG(16, 16))
	for _, h := range histories(17, 100, 5) {
		truth := someTruth(r, h)
		first := everything(h, truth, 2, h.r.Classes-1)
		for range 5 {
			if now := everything(h, truth, 2, h.r.Classes-1); now != first {
				t.Fatalf("%s, then %s", first, now)
			}
		}
	}
}
