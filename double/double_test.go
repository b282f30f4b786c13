package double_test

import (
	"fmt"
	"slices"
	"testing"

	"hailstone/api"
	"hailstone/double"
	"hailstone/parcel"
)

func bound(a, b, c, d int) double.Bound {
	return double.Bound{Pays: to(a, b), Refund: to(c, d)}
}

func TestExamples(t *testing.T) {
	for _, x := range []struct {
		amount     int
		sums, want []int
	}{
		{40, ints(60, 90), ints(16, 24)},
		{100, ints(60, 30), ints(60, 30)},
		{50, ints(1, 1, 1), ints(1, 1, 1)},
		{50, ints(33, 33, 34), ints(16, 17, 17)},
	} {
		if l, e := double.Settle(x.amount, x.sums); !slices.Equal(l, x.want) || e != api.OK {
			t.Errorf("Settle of %d with %v: %v, %v", x.amount, x.sums, l, e)
		}
	}
	if l, n, e := double.Play(chapter(), truth(ints(5), ints(1, 4, 0), 50, 0)); !slices.Equal(l, ints(20, 30)) || n != 50 || e != api.OK {
		t.Errorf("Play: %v, %d, %v", l, n, e)
	}
	a := ask(t, chapter())
	if want := []double.Bound{bound(0, 50, 0, 30), bound(0, 50, 0, 20)}; !slices.Equal(a.bounds, want) || a.total != to(40, 50) || !a.none || len(a.leave) > 0 {
		t.Errorf("the calls return %v", a)
	}
	if a := ask(t, chapter(claim(0, 16, 20), claim(1, 10, 20))); a.first != 1 || !slices.Equal(a.leave, ints(1)) || !a.false {
		t.Errorf("the calls return %v, with claims", a)
	}
}

// TestSettle has P8.1.
func TestSettle(t *testing.T) {
	for _, x := range []struct {
		name       string
		amount     int
		sums, want []int
	}{
		{"nothing", 0, ints(0), ints(0)},
		{"nothing of three", 0, ints(0, 0, 0), ints(0, 0, 0)},
		{"no amount", 0, ints(10, 20), ints(0, 0)},
		{"no sums", 10, ints(0, 0), ints(0, 0)},
		{"one society, less", 10, ints(9), ints(9)},
		{"one society, as much", 10, ints(10), ints(10)},
		{"one society, more", 10, ints(11), ints(10)},
		{"together as much", 10, ints(3, 7), ints(3, 7)},
		{"together one less", 10, ints(3, 6), ints(3, 6)},
		{"together one more", 10, ints(4, 7), ints(3, 7)},
		{"together one more, the other way round", 10, ints(7, 4), ints(6, 4)},
		{"one unit of two", 1, ints(1, 1), ints(0, 1)},
		{"one unit of three", 1, ints(5, 5, 5), ints(0, 0, 1)},
		{"two units of three", 2, ints(5, 5, 5), ints(0, 1, 1)},
		{"without a sum, in front", 7, ints(0, 10, 10), ints(0, 3, 4)},
		{"without a sum, in the middle", 7, ints(10, 0, 10), ints(3, 0, 4)},
		{"without a sum, at the end", 7, ints(10, 10, 0), ints(3, 4, 0)},
		{"only the second one", 7, ints(0, 10, 0), ints(0, 7, 0)},
		{"the greatest numbers", 1000, ints(5000, 5000, 5000), ints(333, 333, 334)},
		{"the greatest number in front", 1000, ints(5000, 1, 1), ints(999, 0, 1)},
		{"the greatest amount of small sums", 1000, ints(1, 2, 3), ints(1, 2, 3)},
	} {
		if l, e := double.Settle(x.amount, x.sums); !slices.Equal(l, x.want) || e != api.OK {
			t.Errorf("%s: Settle of %d with %v: %v, %v, not %v", x.name, x.amount, x.sums, l, e, x.want)
		}
	}
}

// TestWhetherACoverHolds has P8.2: each change of a cover that holds is one for which it does, or does not.
func TestWhetherACoverHolds(t *testing.T) {
	for _, x := range []struct {
		name   string
		change func(c *double.Case)
		holds  bool
		amount int
	}{
		{"as it is", func(c *double.Case) {}, true, 50},
		{"of another parcel", func(c *double.Case) { c.Covers[0].Parcel = 1 }, false, 50},
		{"both are of another parcel", func(c *double.Case) { c.Covers[0].Parcel, c.Parcel = 1, 1 }, true, 20},
		{"of another owner", func(c *double.Case) { c.Covers[0].Owner = 1 }, false, 50},
		{"it starts on the day", func(c *double.Case) { c.Covers[0].Start = at(4) }, true, 50},
		{"it starts a day later", func(c *double.Case) { c.Covers[0].Start = at(5) }, false, 50},
		{"it lasts until the day", func(c *double.Case) { c.Covers[0].Until = 4 }, true, 50},
		{"it lasts until the day before", func(c *double.Case) { c.Covers[0].Until = 3 }, false, 50},
		{"it lasts until before it starts", func(c *double.Case) { c.Covers[0].Start, c.Covers[0].Until = at(4), 0 }, false, 50},
		{"sown on the day", func(c *double.Case) { c.Book.Parcels[0].Sown = days(4, 4) }, true, 50},
		{"sown a day later", func(c *double.Case) { c.Book.Parcels[0].Sown = days(5, 5) }, false, 50},
		{"harvested on the day", func(c *double.Case) { c.Book.Entries = []parcel.Entry{harvest(0, 4, 4)} }, false, 50},
		{"harvested a day later", func(c *double.Case) { c.Book.Entries = []parcel.Entry{harvest(0, 5, 5)} }, true, 50},
		{"sold on the day", func(c *double.Case) { c.Book.Entries = []parcel.Entry{sell(0, 0, 1, 4, 4)} }, false, 50},
		{"sold a day later", func(c *double.Case) { c.Book.Entries = []parcel.Entry{sell(0, 0, 1, 5, 5)} }, true, 50},
		{"sold to the owner on the day", func(c *double.Case) {
			c.Book.Entries, c.Covers[0].Owner = []parcel.Entry{sell(0, 0, 1, 4, 4)}, 1
		}, true, 50},
		{"split on the day", func(c *double.Case) { c.Book.Entries = []parcel.Entry{split(0, 30, 4, 4)} }, true, 35},
		{"split a day later", func(c *double.Case) { c.Book.Entries = []parcel.Entry{split(0, 30, 5, 5)} }, true, 50},
		{"the part on the day", func(c *double.Case) {
			c.Book.Entries, c.Parcel, c.Covers[0].Parcel = []parcel.Entry{split(0, 30, 4, 4)}, 2, 2
		}, true, 15},
		{"the part, covered as the whole", func(c *double.Case) {
			c.Book.Entries, c.Parcel = []parcel.Entry{split(0, 30, 4, 4)}, 2
		}, false, 15},
		{"the part is not there yet", func(c *double.Case) {
			c.Book.Entries, c.Parcel, c.Covers[0].Parcel = []parcel.Entry{split(0, 30, 5, 5)}, 2, 2
		}, false, 0},
		{"the part of a parcel that is harvested", func(c *double.Case) {
			c.Book.Entries, c.Parcel, c.Covers[0].Parcel = []parcel.Entry{split(0, 30, 1, 1), harvest(0, 2, 2)}, 2, 2
		}, true, 15},
		{"no sum", func(c *double.Case) { c.Covers[0].Sum = 0 }, true, 50},
		{"the last day", func(c *double.Case) { c.Day = 9 }, true, 50},
		{"the first day", func(c *double.Case) { c.Day = 0 }, true, 50},
		{"a loss of nothing", func(c *double.Case) { c.Loss = at(0) }, true, 0},
		{"a loss of all", func(c *double.Case) { c.Loss = at(100) }, true, 100},
		{"a loss that is rounded down", func(c *double.Case) { c.Book.Parcels[0].Value, c.Loss = 199, at(1) }, true, 1},
		{"the other society", func(c *double.Case) { c.Covers[0].Society = 1 }, true, 50},
	} {
		c := plain(100, 30)
		c.Societies, c.Loss = 2, at(50)
		c.Book.Parcels = append(c.Book.Parcels, field(0, 40, 0, 0))
		x.change(&c)
		want := make([]int, 2)
		if v := c.Covers[0]; x.holds {
			want[v.Society] = min(v.Sum, x.amount)
		}
		only := choices(c)[0]
		if l, n, e := double.Play(c, only); !slices.Equal(l, want) || n != x.amount || e != api.OK {
			t.Errorf("%s: Play of %v: %v, %d, %v, not %v, %d", x.name, c, l, n, e, want, x.amount)
		}
		if a := ask(t, c); a.total != at(sumOf(want)) || a.bounds[0] != bound(want[0], want[0], 0, 0) || a.bounds[1] != bound(want[1], want[1], 0, 0) {
			t.Errorf("%s: the calls return %v, not %v", x.name, a, want)
		}
	}
}

// TestSumsOfASociety has P8.2: the sum of a society is that of all its covers that hold.
func TestSumsOfASociety(t *testing.T) {
	for _, x := range []struct {
		name         string
		covers       []double.Cover
		pays, refund []int
	}{
		{"no covers", nil, ints(0, 0, 0), ints(0, 0, 0)},
		{"one cover", []double.Cover{cover(2, 0, 30, 0, 0)}, ints(0, 0, 30), ints(0, 0, 0)},
		{"two covers of one society", []double.Cover{cover(2, 0, 30, 0, 0), cover(2, 0, 40, 0, 0)}, ints(0, 0, 70), ints(0, 0, 0)},
		{"more than the amount of one society", []double.Cover{cover(1, 0, 70, 0, 0), cover(1, 0, 80, 0, 0)}, ints(0, 100, 0), ints(0, 0, 0)},
		{"one of them does not hold", []double.Cover{cover(1, 0, 70, 0, 0), cover(1, 1, 80, 0, 0)}, ints(0, 70, 0), ints(0, 0, 0)},
		{"two societies", []double.Cover{cover(0, 0, 60, 0, 0), cover(1, 0, 40, 0, 0), cover(0, 0, 100, 0, 0)}, ints(80, 20, 0), ints(20, 20, 0)},
		{"two societies, and one cover does not hold", []double.Cover{cover(0, 0, 60, 0, 0), cover(1, 0, 90, 0, 0), cover(0, 0, 100, 5, 5)}, ints(40, 60, 0), ints(20, 30, 0)},
		{"five covers", []double.Cover{cover(0, 0, 50, 0, 0), cover(1, 0, 50, 0, 0), cover(2, 0, 50, 0, 0), cover(0, 0, 50, 0, 0), cover(2, 0, 50, 0, 0)}, ints(40, 20, 40), ints(60, 30, 60)},
		{"just enough", []double.Cover{cover(0, 0, 20, 0, 0), cover(1, 0, 30, 0, 0), cover(2, 0, 50, 0, 0)}, ints(20, 30, 50), ints(0, 0, 0)},
		{"one too much", []double.Cover{cover(0, 0, 20, 0, 0), cover(1, 0, 30, 0, 0), cover(2, 0, 51, 0, 0)}, ints(19, 30, 51), ints(1, 0, 0)},
	} {
		c := plain(100, 0, 0, 0)
		c.Covers = x.covers
		if l, n, e := double.Play(c, choices(c)[0]); !slices.Equal(l, x.pays) || n != 100 || e != api.OK {
			t.Errorf("%s: Play: %v, %d, %v, not %v", x.name, l, n, e, x.pays)
		}
		a := ask(t, c)
		for k, b := range a.bounds {
			if b != (double.Bound{Pays: at(x.pays[k]), Refund: at(x.refund[k])}) {
				t.Errorf("%s: Bounds: %v, not %v, %v", x.name, a.bounds, x.pays, x.refund)
			}
		}
		if a.total != at(sumOf(x.pays)) {
			t.Errorf("%s: Total: %v", x.name, a.total)
		}
	}
}

// TestClaims has P8.3 to P8.5.
func TestClaims(t *testing.T) {
	full := []double.Bound{bound(0, 50, 0, 30), bound(0, 50, 0, 20)}
	for _, x := range []struct {
		name   string
		claims []double.Claim
		bounds []double.Bound
		total  double.Range
		first  int
		leave  []int
	}{
		{"none", nil, full, to(40, 50), -1, nil},
		{"one that says nothing", []double.Claim{claim(0, 0, 1000)}, full, to(40, 50), -1, nil},
		{"not sold, and both cover", []double.Claim{claim(0, 1, 39)}, []double.Bound{bound(16, 20, 24, 30), bound(24, 30, 16, 20)}, to(40, 50), -1, nil},
		{"a loss of 43 or 44", []double.Claim{claim(0, 17, 17)}, []double.Bound{bound(17, 17, 26, 27), bound(26, 27, 17, 17)}, to(43, 44), -1, nil},
		{"the society 1 alone", []double.Claim{claim(1, 45, 45)}, []double.Bound{bound(0, 0, 0, 0), bound(45, 45, 0, 0)}, at(45), -1, nil},
		{"the society 0 alone", []double.Claim{claim(1, 0, 0)}, []double.Bound{bound(40, 50, 0, 0), bound(0, 0, 0, 0)}, to(40, 50), -1, nil},
		{"both, and the loss", []double.Claim{claim(0, 18, 18), claim(1, 29, 30)}, []double.Bound{bound(18, 18, 29, 29), bound(29, 29, 18, 18)}, at(47), -1, nil},
		{"the same twice", []double.Claim{claim(0, 18, 18), claim(0, 18, 18)}, []double.Bound{bound(18, 18, 27, 29), bound(27, 29, 18, 18)}, to(45, 47), -1, nil},
		{"one that is wrong alone", []double.Claim{claim(0, 51, 1000)}, nil, at(0), 0, ints(0)},
		{"the lowest claim that is wrong alone", []double.Claim{claim(0, 1, 15)}, nil, at(0), 0, ints(0)},
		{"one of two is wrong alone", []double.Claim{claim(0, 50, 50), claim(1, 51, 60)}, nil, at(0), 1, ints(1)},
		{"the first of two is wrong alone", []double.Claim{claim(1, 51, 60), claim(0, 50, 50)}, nil, at(0), 0, ints(0)},
		{"two that contradict each other", []double.Claim{claim(0, 18, 18), claim(0, 19, 19)}, nil, at(0), 1, ints(0)},
		{"three that contradict each other", []double.Claim{claim(0, 18, 18), claim(0, 19, 19), claim(0, 20, 20)}, nil, at(0), 1, ints(0, 1)},
		{"two against one", []double.Claim{claim(0, 50, 50), claim(0, 18, 18), claim(1, 28, 28)}, nil, at(0), 1, ints(0)},
		{"the last one is against all", []double.Claim{claim(1, 24, 30), claim(1, 20, 29), claim(0, 16, 18), claim(0, 17, 20), claim(1, 0, 0)}, nil, at(0), 4, ints(4)},
		{"three of five", []double.Claim{claim(0, 16, 16), claim(1, 30, 30), claim(0, 0, 0), claim(1, 0, 0), claim(0, 60, 60)}, nil, at(0), 1, ints(0, 1, 2, 4)},
		{"five that are all wrong", []double.Claim{claim(0, 51, 51), claim(0, 52, 52), claim(1, 51, 51), claim(1, 1, 23), claim(1, 31, 39)}, nil, at(0), 0, ints(0, 1, 2, 3, 4)},
	} {
		a := ask(t, chapter(x.claims...))
		if want := x.first < 0; a.none != want || a.false == want || !want && a.first != x.first {
			t.Errorf("%s: First: %d", x.name, a.first)
		}
		if !slices.Equal(a.bounds, x.bounds) || a.total != x.total || !slices.Equal(a.leave, x.leave) {
			t.Errorf("%s: the calls return %v, not %v", x.name, a, x)
		}
		if m := modelOf(chapter(x.claims...)); fmt.Sprint(a) != fmt.Sprint(m) {
			t.Errorf("%s: the calls return %v, not %v", x.name, a, m)
		}
	}
}

// TestShow has P8.4, on the chapter's case.
func TestShow(t *testing.T) {
	for _, x := range []struct {
		society int
		high    bool
		want    int
		claims  []double.Claim
	}{
		{0, false, 0, nil}, {0, true, 50, nil}, {1, false, 0, nil}, {1, true, 50, nil},
		{0, false, 16, []double.Claim{claim(1, 1, 30)}}, {0, true, 20, []double.Claim{claim(1, 1, 30)}},
		{1, false, 27, []double.Claim{claim(0, 18, 18)}}, {1, true, 29, []double.Claim{claim(0, 18, 18)}},
	} {
		c := chapter(x.claims...)
		l, e := double.Show(c, x.society, x.high)
		pays, _, f := double.Play(c, l)
		if e != api.OK || f != api.OK || pays[x.society] != x.want {
			t.Errorf("Show of %d, %v with %v: %v, %v, in which %v is paid, %v, not %d", x.society, x.high, x.claims, l, e, pays, f, x.want)
		}
	}
}

// TestGreatest has cases with as many choices as there may be, and the greatest numbers.
func TestGreatest(t *testing.T) {
	c := plain(1000, 1000, 1000, 1000)
	c.Covers = append(c.Covers, cover(2, 0, 1000, 0, 0), cover(2, 0, 1000, 0, 0))
	c.Claims = []double.Claim{claim(0, 200, 200), claim(1, 200, 200), claim(2, 600, 600), claim(2, 0, 1000), claim(0, 0, 1000)}
	if a := ask(t, c); !slices.Equal(a.bounds, []double.Bound{bound(200, 200, 800, 800), bound(200, 200, 800, 800), bound(600, 600, 400, 400)}) || a.total != at(1000) {
		t.Errorf("the calls return %v", a)
	}
	c.Book.Last, c.Day = 30, 15
	for i := range c.Covers {
		c.Covers[i].Until = 30
	}
	c.Loss, c.Claims = to(1, 100), nil
	c.Covers[0].Start, c.Covers[4].Start = to(11, 20), to(15, 16)
	a, m := ask(t, c), modelOf(c)
	if fmt.Sprint(a) != fmt.Sprint(m) || numberOf(c) != api.MaxDoubleTruths {
		t.Errorf("the calls return %v of %d choices, not %v", a, numberOf(c), m)
	}
	book := plain(1000, 1000, 500, 30)
	book.Book.Parcels[0].Sown = days(0, 9)
	book.Book.Entries = []parcel.Entry{sell(0, 0, 1, 0, 9), sell(0, 1, 0, 0, 9)}
	book.Loss, book.Claims = to(99, 100), []double.Claim{claim(0, 650, 653), claim(2, 20, 21), claim(1, 320, 325), claim(1, 330, 330), claim(2, 19, 19)}
	a, m = ask(t, book), modelOf(book)
	if fmt.Sprint(a) != fmt.Sprint(m) || numberOf(book) != api.MaxDoubleTruths || !slices.Equal(a.leave, ints(0, 3, 4)) {
		t.Errorf("the calls return %v of %d choices, not %v", a, numberOf(book), m)
	}
}

// TestMemory checks R4: arguments stay as they were, results can be written to, and equal calls return equal results.
func TestMemory(t *testing.T) {
	for i, c := range append(cases(1, 150), chapter(), chapter(claim(0, 18, 18), claim(0, 19, 19))) {
		arguments, all := clone(c), choices(c)
		kept := all[i%len(all)]
		l := cloneTruth(kept)
		first := everything(arguments, l, i%4)
		pays, _, _ := double.Play(arguments, l)
		writeTo(pays, 77)
		leave, _ := double.Leave(arguments)
		writeTo(leave, 77)
		bounds, _ := double.Bounds(arguments)
		writeTo(bounds, bound(7, 7, 7, 7))
		shown, _ := double.Show(arguments, 0, i%2 == 0)
		apart(t, shown)
		if everything(arguments, l, i%4) != first {
			t.Fatalf("not the same again: %v", c)
		}
		if !same(arguments, c) || !sameTruth(l, kept) {
			t.Fatalf("written to: %v, %v", c, kept)
		}
	}
	sums := roomy(ints(33, 33, 34))
	pays, _ := double.Settle(50, sums)
	writeTo(pays, 77)
	if !slices.Equal(sums, ints(33, 33, 34)) || behind(sums) != "[0 0]" {
		t.Errorf("written to: %v", sums)
	}
}

func writeTo[T any](l []T, x T) {
	for k := range l {
		l[k] = x
	}
	_ = append(l, x)
}

// apart writes to each list of a truth, and behind it: the others stay as they are.
func apart(t *testing.T, l double.Truth) {
	t.Helper()
	all := [][]int{l.Book.Days, l.Book.Sown, l.Starts}
	for i := range all {
		others := fmt.Sprint(all[:i], all[i+1:])
		writeTo(all[i], 77)
		if now := fmt.Sprint(all[:i], all[i+1:]); now != others {
			t.Fatalf("%s, then %s", others, now)
		}
	}
}
