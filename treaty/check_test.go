package treaty_test

import (
	"fmt"
	"math"
	"slices"
	"testing"

	"hailstone/api"
	"hailstone/treaty"
)

// odd are numbers of any size.
func odd() []int {
	return ints(math.MinInt, math.MinInt+1, -2, -1, 0, 1, 2, 3, 4, 5, 50, 99, 100, 101, 120, 121, 300, 301, 999, 1000, 1001, 9999, 10000, 10001, math.MaxInt-1, math.MaxInt)
}

// programmeCase changes the chapter's programme, with two reports, which then has an error, or OK.
type programmeCase struct {
	name   string
	change func(p *treaty.Programme)
	want   api.Errno
}

func reported() treaty.Programme { return chapter(report(0, 0, 200), report(2, 0, 100)) }

func checkProgrammes(t *testing.T, cases []programmeCase) {
	t.Helper()
	for _, x := range cases {
		p := clone(reported())
		x.change(&p)
		if e := treaty.CheckProgramme(p); e != x.want {
			t.Errorf("%s: CheckProgramme of %v: %v, not %v", x.name, p, e, x.want)
		}
		if x.want != api.OK {
			wantAll(t, x.name, p, x.want)
		} else {
			ask(t, p)
		}
	}
}

// wantAll checks that each call returns the error of the programme, whatever its other arguments are, and nothing else.
func wantAll(t *testing.T, name string, p treaty.Programme, want api.Errno) {
	t.Helper()
	for _, l := range [][]int{nil, ints(100, 300), ints(0), ints(-1, -1), ints(1, 0), make([]int, 99)} {
		if pays, net, e := treaty.Play(p, l); len(pays) > 0 || net != 0 || e != want {
			t.Errorf("%s: Play of %v: %v, %d, %v, not %v", name, l, pays, net, e, want)
		}
		if r, e := treaty.Kept(p, l); r != at(0) || e != want {
			t.Errorf("%s: Kept of %v: %v, %v, not %v", name, l, r, e, want)
		}
		for _, price := range ints(0, 100, math.MaxInt, math.MinInt) {
			if treaty.Prove(p, l, price) {
				t.Errorf("%s: Prove of %v for %d", name, l, price)
			}
		}
	}
	if l, e := treaty.Bounds(p); len(l) > 0 || e != want {
		t.Errorf("%s: Bounds: %v, %v, not %v", name, l, e, want)
	}
	if r, e := treaty.Net(p); r != at(0) || e != want {
		t.Errorf("%s: Net: %v, %v, not %v", name, r, e, want)
	}
	if n, e := treaty.First(p); n != 0 || e != want {
		t.Errorf("%s: First: %d, %v, not %v", name, n, e, want)
	}
	if l, e := treaty.Leave(p); len(l) > 0 || e != want {
		t.Errorf("%s: Leave: %v, %v, not %v", name, l, e, want)
	}
	if l, n, e := treaty.Cheapest(p); len(l) > 0 || n != 0 || e != want {
		t.Errorf("%s: Cheapest: %v, %d, %v, not %v", name, l, n, e, want)
	}
}

// TestTooMany has the first condition of the first row: it comes before all others.
func TestTooMany(t *testing.T) {
	losses := func(n int) []treaty.Range { return make([]treaty.Range, n) }
	treaties := func(n int) (l []treaty.Treaty) {
		for range n {
			l = append(l, quota(1, 0, -1))
		}
		return l
	}
	reports := func(n int) []treaty.Report { return make([]treaty.Report, n) }
	checkProgrammes(t, []programmeCase{
		{"as it is", func(p *treaty.Programme) {}, api.OK},
		{"nothing", func(p *treaty.Programme) { *p = treaty.Programme{} }, api.OK},
		{"no losses", func(p *treaty.Programme) { p.Losses = nil }, api.OK},
		{"four losses", func(p *treaty.Programme) { p.Losses = losses(4) }, api.OK},
		{"five losses", func(p *treaty.Programme) { p.Losses = losses(5) }, api.ErrLimit},
		{"very many losses", func(p *treaty.Programme) { p.Losses = losses(9999) }, api.ErrLimit},
		{"no treaties, nor reports", func(p *treaty.Programme) { p.Treaties, p.Reports = nil, nil }, api.OK},
		{"five treaties", func(p *treaty.Programme) { p.Treaties = treaties(5) }, api.OK},
		{"six treaties", func(p *treaty.Programme) { p.Treaties = treaties(6) }, api.ErrLimit},
		{"very many treaties", func(p *treaty.Programme) { p.Treaties = treaties(9999) }, api.ErrLimit},
		{"no reports", func(p *treaty.Programme) { p.Reports = nil }, api.OK},
		{"five reports", func(p *treaty.Programme) { p.Reports = reports(5) }, api.OK},
		{"six reports", func(p *treaty.Programme) { p.Reports = reports(6) }, api.ErrLimit},
		{"very many reports", func(p *treaty.Programme) { p.Reports = reports(9999) }, api.ErrLimit},

		{"five losses, and a bad Reserve", func(p *treaty.Programme) { p.Losses, p.Reserve = losses(5), -1 }, api.ErrLimit},
		{"five losses, and a bad one", func(p *treaty.Programme) { p.Losses = append(losses(4), at(1001)) }, api.ErrLimit},
		{"six treaties, and a bad one", func(p *treaty.Programme) { p.Treaties = append(treaties(5), quota(0, 0, -1)) }, api.ErrLimit},
		{"six treaties, and a bad loss", func(p *treaty.Programme) { p.Treaties, p.Losses[0] = treaties(6), to(2, 1) }, api.ErrLimit},
		{"six reports, and a bad one", func(p *treaty.Programme) { p.Reports = append(reports(5), report(9, 0, 0)) }, api.ErrLimit},
		{"six reports, and a bad treaty", func(p *treaty.Programme) { p.Reports, p.Treaties[1].Kind = reports(6), 2 }, api.ErrLimit},
		{"six reports, and no treaties", func(p *treaty.Programme) { p.Reports, p.Treaties = reports(6), nil }, api.ErrLimit},
	})
}

// TestInvalidNumbers has the second condition of the first row, for the numbers that lie between others.
func TestInvalidNumbers(t *testing.T) {
	for _, x := range []struct {
		name        string
		get         func(p *treaty.Programme) *int
		first, last int
	}{
		{"the Reserve", func(p *treaty.Programme) *int { return &p.Reserve }, 0, 10000},
		{"the Part of a Quota", func(p *treaty.Programme) *int { return &p.Treaties[0].Part }, 1, 100},
		{"Above of a Quota", func(p *treaty.Programme) *int { return &p.Treaties[0].Above }, 0, 0},
		{"the Most of a Quota", func(p *treaty.Programme) *int { return &p.Treaties[0].Most }, 0, 0},
		{"Times of a Quota", func(p *treaty.Programme) *int { return &p.Treaties[0].Times }, 0, 0},
		{"the Price of a Quota", func(p *treaty.Programme) *int { return &p.Treaties[0].Price }, 0, 1000},
		{"the Part of an Excess", func(p *treaty.Programme) *int { return &p.Treaties[1].Part }, 0, 0},
		{"Above of an Excess", func(p *treaty.Programme) *int { return &p.Treaties[1].Above }, 0, 1000},
		{"the Most of an Excess", func(p *treaty.Programme) *int { return &p.Treaties[1].Most }, 1, 1000},
		{"Times of an Excess", func(p *treaty.Programme) *int { return &p.Treaties[1].Times }, 0, 3},
		{"the Price of an Excess", func(p *treaty.Programme) *int { return &p.Treaties[1].Price }, 0, 1000},
		{"the Part of the last treaty", func(p *treaty.Programme) *int { return &p.Treaties[2].Part }, 0, 0},
		{"the Most of the last treaty", func(p *treaty.Programme) *int { return &p.Treaties[2].Most }, 1, 1000},
		{"the Price of the last treaty", func(p *treaty.Programme) *int { return &p.Treaties[2].Price }, 0, 1000},
		{"Of the first treaty", func(p *treaty.Programme) *int { return &p.Treaties[0].Of }, -1, -1},
		{"Of the second treaty", func(p *treaty.Programme) *int { return &p.Treaties[1].Of }, -1, 0},
		{"Of the last treaty", func(p *treaty.Programme) *int { return &p.Treaties[2].Of }, -1, 1},
		{"Of the last one of five treaties", func(p *treaty.Programme) *int {
			p.Treaties = append(p.Treaties, quota(1, 0, 2), quota(1, 0, 3))
			return &p.Treaties[4].Of
		}, -1, 3},
		{"the treaty of the first report", func(p *treaty.Programme) *int { return &p.Reports[0].Treaty }, 0, 2},
		{"the treaty of the last report", func(p *treaty.Programme) *int { return &p.Reports[1].Treaty }, 0, 2},
	} {
		var cases []programmeCase
		for _, n := range odd() {
			want := api.ErrArg
			if n >= x.first && n <= x.last {
				want = api.OK
			}
			cases = append(cases, programmeCase{fmt.Sprint(x.name, " is ", n), func(p *treaty.Programme) {
				*x.get(p) = n
				for i := range p.Reports {
					p.Reports[i].Paid = to(0, 10000)
				}
			}, want})
		}
		checkProgrammes(t, cases)
	}
}

// TestInvalidKinds has the second condition of the first row, for treaties of each kind.
func TestInvalidKinds(t *testing.T) {
	var cases []programmeCase
	for _, kind := range odd() {
		for i, x := range []treaty.Treaty{quota(25, 50, -1), excess(50, 100, 1, 30, -1), {Of: -1}, {Part: 25, Most: 100, Of: -1}} {
			want := api.ErrArg
			if kind == i && i <= treaty.Excess {
				want = api.OK
			}
			x.Kind = kind
			cases = append(cases, programmeCase{fmt.Sprint("the first treaty is ", x), func(p *treaty.Programme) { p.Treaties[0] = x }, want},
				programmeCase{fmt.Sprint("the last treaty is ", x), func(p *treaty.Programme) { p.Treaties[2] = x }, want})
		}
	}
	if treaty.Quota != 0 || treaty.Excess != 1 {
		t.Errorf("kinds: %d, %d", treaty.Quota, treaty.Excess)
	}
	checkProgrammes(t, append(cases, []programmeCase{
		{"zeros", func(p *treaty.Programme) { p.Treaties[0] = treaty.Treaty{} }, api.ErrArg},
		{"no treaties, and a report", func(p *treaty.Programme) { p.Treaties = nil }, api.ErrArg},
		{"fewer treaties than a report has", func(p *treaty.Programme) { p.Treaties = p.Treaties[:2] }, api.ErrArg},
		{"just as many treaties as a report has", func(p *treaty.Programme) { p.Treaties, p.Reports = p.Treaties[:2], p.Reports[:1] }, api.OK},
		{"a bad Reserve alone", func(p *treaty.Programme) { *p = treaty.Programme{Reserve: -1} }, api.ErrArg},
		{"the greatest Reserve alone", func(p *treaty.Programme) { *p = treaty.Programme{Reserve: 10000} }, api.OK},
	}...))
}

// TestInvalidRanges has the second condition of the first row, for each range.
func TestInvalidRanges(t *testing.T) {
	for _, x := range []struct {
		name string
		get  func(p *treaty.Programme) *treaty.Range
		last int
	}{
		{"the first loss", func(p *treaty.Programme) *treaty.Range { p.Losses[1] = at(300); return &p.Losses[0] }, 1000},
		{"the last loss", func(p *treaty.Programme) *treaty.Range { p.Losses[0] = at(100); return &p.Losses[1] }, 1000},
		{"the first report", func(p *treaty.Programme) *treaty.Range { return &p.Reports[0].Paid }, 10000},
		{"the last report", func(p *treaty.Programme) *treaty.Range { return &p.Reports[1].Paid }, 10000},
	} {
		var cases []programmeCase
		for _, low := range odd() {
			for _, high := range odd() {
				want := api.ErrArg
				if low >= 0 && low <= high && high <= x.last {
					want = api.OK
				}
				cases = append(cases, programmeCase{fmt.Sprint(x.name, " is ", low, "..", high), func(p *treaty.Programme) { *x.get(p) = to(low, high) }, want})
			}
		}
		checkProgrammes(t, cases)
	}
}

// TestTooManyTruths has the third condition of the first row.
func TestTooManyTruths(t *testing.T) {
	losses := func(l ...treaty.Range) func(p *treaty.Programme) {
		return func(p *treaty.Programme) { p.Losses = l }
	}
	with := func(change, more func(p *treaty.Programme)) func(p *treaty.Programme) {
		return func(p *treaty.Programme) {
			change(p)
			more(p)
		}
	}
	all := losses(to(0, 1000), to(0, 1000), to(0, 1000), to(0, 1000))
	checkProgrammes(t, []programmeCase{
		{"1001", losses(to(0, 1000)), api.OK},
		{"1001, and known losses", losses(at(7), to(0, 1000), at(1000), at(0)), api.OK},
		{"1500", losses(to(1, 10), to(1, 150)), api.OK},
		{"1500 of four losses", losses(to(0, 9), to(1, 15), to(999, 1000), to(5, 9)), api.OK},
		{"1501", losses(to(0, 18), to(0, 78)), api.ErrLimit},
		{"1502", losses(to(0, 750), to(0, 1)), api.ErrLimit},
		{"1510", losses(to(1, 10), to(0, 150)), api.ErrLimit},
		{"1500, doubled by the last loss", losses(to(1, 10), to(1, 150), at(3), to(3, 4)), api.ErrLimit},
		{"1500, and wide reports", with(losses(to(1, 10), to(1, 150)), func(p *treaty.Programme) {
			p.Reports = []treaty.Report{report(0, 0, 10000), report(1, 0, 10000), report(2, 0, 10000), report(0, 0, 10000), report(0, 0, 10000)}
		}), api.OK},
		{"as many as possible", all, api.ErrLimit},
		{"as many as possible, and a bad loss", with(all, func(p *treaty.Programme) { p.Losses[3] = to(0, 1001) }), api.ErrArg},
		{"as many as possible, and a bad Reserve", with(all, func(p *treaty.Programme) { p.Reserve = 10001 }), api.ErrArg},
		{"as many as possible, and a bad treaty", with(all, func(p *treaty.Programme) { p.Treaties[2].Of = 2 }), api.ErrArg},
		{"as many as possible, and a bad report", with(all, func(p *treaty.Programme) { p.Reports[1].Paid = to(2, 1) }), api.ErrArg},
		{"as many as possible, and six reports", with(all, func(p *treaty.Programme) { p.Reports = make([]treaty.Report, 6) }), api.ErrLimit},
	})
}

// TestErrorsOfPlay has the row of Play.
func TestErrorsOfPlay(t *testing.T) {
	p := chapter()
	for _, x := range []struct {
		name   string
		p      treaty.Programme
		losses []int
		want   api.Errno
	}{
		{"as it is", p, ints(110, 300), api.OK},
		{"the least losses", p, ints(100, 300), api.OK},
		{"the greatest losses", p, ints(120, 300), api.OK},
		{"no losses", p, nil, api.ErrRange},
		{"an empty list", p, ints(), api.ErrRange},
		{"too few losses", p, ints(110), api.ErrRange},
		{"too many losses", p, ints(110, 300, 0), api.ErrRange},
		{"very many losses", p, make([]int, 9999), api.ErrRange},
		{"the other way round", p, ints(300, 110), api.ErrRange},
		{"no losses of none", treaty.Programme{}, nil, api.OK},
		{"an empty list of none", treaty.Programme{}, ints(), api.OK},
		{"a loss of none", treaty.Programme{}, ints(0), api.ErrRange},
		{"wrong reports", chapter(report(0, 0, 0), report(1, 0, 0)), ints(110, 300), api.OK},
		{"wrong reports, and a bad loss", chapter(report(0, 0, 0), report(1, 0, 0)), ints(110, 299), api.ErrRange},
	} {
		checkPlay(t, x.name, x.p, x.losses, x.want)
	}
	for _, n := range odd() {
		for i, r := range p.Losses {
			losses := ints(110, 300)
			losses[i] = n
			want := api.ErrRange
			if has(r, n) {
				want = api.OK
			}
			checkPlay(t, "the losses", p, losses, want)
		}
	}
}

func checkPlay(t *testing.T, name string, p treaty.Programme, losses []int, want api.Errno) {
	t.Helper()
	l, net, e := treaty.Play(p, losses)
	if e != want || e != api.OK && (len(l) > 0 || net != 0) || e == api.OK && len(l) != len(p.Treaties) {
		t.Errorf("%s: Play of %v: %v, %d, %v, not %v", name, losses, l, net, e, want)
	}
}

// TestErrorsOfKept has the row of Kept. What is not a set proves nothing, either.
func TestErrorsOfKept(t *testing.T) {
	p := reserved(chapter(), 10000)
	p.Treaties = append(p.Treaties, quota(10, 0, -1), quota(10, 0, 3))
	wrong := p
	wrong.Reports = []treaty.Report{report(0, 0, 0), report(1, 0, 0)}
	for _, x := range []struct {
		name string
		set  []int
		want api.Errno
	}{
		{"no treaty", nil, api.OK},
		{"an empty list", ints(), api.OK},
		{"the first one", ints(0), api.OK},
		{"the last one of the society", ints(3), api.OK},
		{"all of the society", ints(0, 1, 3), api.OK},
		{"one twice", ints(0, 0), api.ErrRange},
		{"the last one twice", ints(0, 3, 3), api.ErrRange},
		{"not increasing", ints(1, 0), api.ErrRange},
		{"not increasing at its end", ints(0, 3, 1), api.ErrRange},
		{"one that protects another one", ints(2), api.ErrRange},
		{"the last one that protects another one", ints(4), api.ErrRange},
		{"all treaties", ints(0, 1, 2, 3, 4), api.ErrRange},
		{"one that there is not", ints(5), api.ErrRange},
		{"one more than there are", ints(0, 1, 3, 5), api.ErrRange},
		{"one below 0", ints(-1), api.ErrRange},
		{"one below 0, and others", ints(-1, 0, 1), api.ErrRange},
		{"very many", make([]int, 9999), api.ErrRange},
	} {
		for _, p := range []treaty.Programme{p, wrong} {
			r, e := treaty.Kept(p, x.set)
			if e != x.want || e != api.OK && r != at(0) || treaty.Prove(p, x.set, 9999) != (e == api.OK) {
				t.Errorf("%s: Kept of %v: %v, %v, not %v", x.name, x.set, r, e, x.want)
			}
		}
	}
	for _, n := range odd() {
		want := api.ErrRange
		if n == 0 || n == 1 || n == 3 {
			want = api.OK
		}
		if r, e := treaty.Kept(p, ints(n)); e != want || e != api.OK && r != at(0) {
			t.Errorf("Kept of %d: %v, %v, not %v", n, r, e, want)
		}
	}
}

// TestErrorsOfReports has the rows of Bounds and Net, of First, and of Cheapest.
func TestErrorsOfReports(t *testing.T) {
	for _, x := range []struct {
		name                    string
		p                       treaty.Programme
		bounds, first, cheapest api.Errno
	}{
		{"no reports", chapter(), api.OK, api.ErrNone, api.ErrShort},
		{"no reports, and a great Reserve", reserved(chapter(), 215), api.OK, api.ErrNone, api.OK},
		{"right reports", chapter(report(0, 103, 103), report(2, 48, 48)), api.OK, api.ErrNone, api.ErrShort},
		{"a wrong report", chapter(report(0, 106, 106)), api.ErrFalse, api.OK, api.ErrShort},
		{"a wrong report, and a great Reserve", reserved(chapter(report(0, 106, 106)), 215), api.ErrFalse, api.OK, api.OK},
		{"reports that contradict each other", chapter(report(0, 103, 103), report(2, 47, 47)), api.ErrFalse, api.OK, api.ErrShort},
		{"nothing", treaty.Programme{}, api.OK, api.ErrNone, api.OK},
	} {
		bounds, e := treaty.Bounds(x.p)
		net, f := treaty.Net(x.p)
		if e != x.bounds || f != x.bounds || e != api.OK && (len(bounds) > 0 || net != at(0)) {
			t.Errorf("%s: Bounds, Net: %v, %v; %v, %v, not %v", x.name, bounds, e, net, f, x.bounds)
		}
		if n, e := treaty.First(x.p); e != x.first || e != api.OK && n != 0 {
			t.Errorf("%s: First: %d, %v, not %v", x.name, n, e, x.first)
		}
		if l, e := treaty.Leave(x.p); e != api.OK || (len(l) > 0) != (x.bounds == api.ErrFalse) {
			t.Errorf("%s: Leave: %v, %v", x.name, l, e)
		}
		if l, n, e := treaty.Cheapest(x.p); e != x.cheapest || e != api.OK && (len(l) > 0 || n != 0) {
			t.Errorf("%s: Cheapest: %v, %d, %v, not %v", x.name, l, n, e, x.cheapest)
		}
	}
}

// TestEmptyLists checks R3: nil is the same as a list without elements.
func TestEmptyLists(t *testing.T) {
	empty := treaty.Programme{Losses: ranges(), Treaties: []treaty.Treaty{}, Reports: []treaty.Report{}}
	losses, treaties := plain(ints(7, 9)), plain(nil, quota(50, 0, -1))
	emptyLosses, emptyTreaties := losses, treaties
	emptyLosses.Treaties, emptyLosses.Reports = empty.Treaties, empty.Reports
	emptyTreaties.Losses, emptyTreaties.Reports = empty.Losses, empty.Reports
	for _, pair := range [][2]treaty.Programme{{{}, empty}, {losses, emptyLosses}, {treaties, emptyTreaties}} {
		a := everything(pair[0], nil, nil, 0)
		for _, p := range pair {
			if b := everything(p, ints(), ints(), 0); a != b {
				t.Errorf("nil is not the same as empty: %s, %s", a, b)
			}
		}
	}
	if a := ask(t, treaty.Programme{}); len(a.bounds) > 0 || a.net != at(0) || !a.none || len(a.leave) > 0 || len(a.set) > 0 || a.short {
		t.Errorf("a programme of nothing: %v", a)
	}
}

// numbers are all numbers of a programme.
func numbers(p *treaty.Programme) []*int {
	list := []*int{&p.Reserve}
	for i := range p.Losses {
		list = append(list, &p.Losses[i].Lo, &p.Losses[i].Hi)
	}
	for i := range p.Treaties {
		x := &p.Treaties[i]
		list = append(list, &x.Kind, &x.Part, &x.Above, &x.Most, &x.Times, &x.Price, &x.Of)
	}
	for i := range p.Reports {
		x := &p.Reports[i]
		list = append(list, &x.Treaty, &x.Paid.Lo, &x.Paid.Hi)
	}
	return list
}

// TestAnyArguments calls everything with numbers of any size: nothing panics, and all calls agree on the error of the programme (P1, R1).
func TestAnyArguments(t *testing.T) {
	base := reported()
	for of := range numbers(&base) {
		for other := range of + 1 {
			for _, n := range odd() {
				p := clone(base)
				*numbers(&p)[of] = n
				*numbers(&p)[other] = n
				want := checked(p)
				if e := treaty.CheckProgramme(p); e != want {
					t.Errorf("CheckProgramme of %v: %v, not %v", p, e, want)
				}
				if want != api.OK {
					wantAll(t, fmt.Sprint(p), p, want)
				} else {
					ask(t, p)
				}
				everything(p, ints(n, n), ints(n), n)
				everything(p, ints(110, n), ints(0, n), n)
			}
		}
	}
}

// checked is the error of a programme that has not too much of anything but truths, by counting what is not so.
func checked(p treaty.Programme) api.Errno {
	bad := 0
	within := func(n, low, high int) {
		if n < low || n > high {
			bad++
		}
	}
	inOrder := func(r treaty.Range, last int) {
		within(r.Lo, 0, last)
		within(r.Hi, r.Lo, last)
	}
	within(p.Reserve, 0, 10000)
	for _, r := range p.Losses {
		inOrder(r, 1000)
	}
	for n, x := range p.Treaties {
		within(x.Price, 0, 1000)
		within(x.Of, -1, n-1)
		switch x.Kind {
		case 0:
			within(x.Part, 1, 100)
			bad += len(slices.DeleteFunc(ints(x.Above, x.Most, x.Times), func(n int) bool { return n == 0 }))
		case 1:
			within(x.Part, 0, 0)
			within(x.Above, 0, 1000)
			within(x.Most, 1, 1000)
			within(x.Times, 0, 3)
		default:
			bad++
		}
	}
	for _, x := range p.Reports {
		within(x.Treaty, 0, len(p.Treaties)-1)
		inOrder(x.Paid, 10000)
	}
	switch {
	case bad > 0:
		return api.ErrArg
	case numberOf(p) > 1500:
		return api.ErrLimit
	}
	return api.OK
}
