package call_test

import (
	"fmt"
	"math"
	"slices"
	"testing"

	"hailstone/api"
	"hailstone/call"
)

// TestExamples has the examples of the chapter.
func TestExamples(t *testing.T) {
	s := chapter()
	if r, e := call.Needs(s); r != to(235, 250) || e != api.OK {
		t.Errorf("Needs: %v, %v", r, e)
	}
	for _, x := range []struct {
		need, short int
		calls       []int
	}{{200, 0, ints(100, 50, 50)}, {201, 0, ints(101, 50, 50)}, {250, 0, ints(127, 60, 63)}, {1100, 40, ints(500, 60, 500)}} {
		if l, short, e := call.Calls(s, x.need); !slices.Equal(l, x.calls) || short != x.short || e != api.OK {
			t.Errorf("Calls for %d: %v, %d, %v", x.need, l, short, e)
		}
	}
	if l, e := call.Bounds(s); !slices.Equal(l, ranges(to(117, 127), to(59, 60), to(59, 63))) || e != api.OK {
		t.Errorf("Bounds: %v, %v", l, e)
	}
	if l, e := call.Without(s, ints(1)); !slices.Equal(l, ranges(to(157, 167), at(0), to(78, 83))) || e != api.OK {
		t.Errorf("Without: %v, %v", l, e)
	}
	if n, e := call.Rate(s); n != 64 || e != api.OK {
		t.Errorf("Rate: %d, %v", n, e)
	}
	if l, e := call.Missed(s); !slices.Equal(l, ints(0, 2)) || e != api.OK {
		t.Errorf("Missed: %v, %v", l, e)
	}
	s.Members[0].Most, s.Members[2].Most = 150, 150
	if l, e := call.Missed(s); !slices.Equal(l, ints(0)) || e != api.OK {
		t.Errorf("Missed: %v, %v", l, e)
	}
	a := ask(t, chapter())
	if m := modelOf(chapter()); fmt.Sprint(a) != fmt.Sprint(m) || a.short != at(0) {
		t.Errorf("the calls return %v, not %v", a, m)
	}
}

// TestExampleOfDocument has the ninth example of the document.
func TestExampleOfDocument(t *testing.T) {
	s := plain(at(201), member(200, 1, 1000), member(100, 1, 1000), member(50, 2, 1000))
	if l, short := pay(t, s, 201); !slices.Equal(l, ints(101, 50, 50)) || short != 0 {
		t.Errorf("Calls: %v, %d", l, short)
	}
}

// TestNeed has P9.1.
func TestNeed(t *testing.T) {
	for _, x := range []struct {
		name string
		s    call.Society
		u    call.Truth
		need int
		all  call.Range
	}{
		{"the chapter's least losses", chapter(), truth(25, 200, 90), 235, to(235, 250)},
		{"the chapter's greatest losses", chapter(), truth(20, 210, 90), 250, to(235, 250)},
		{"between them", chapter(), truth(22, 207, 90), 245, to(235, 250)},
		{"no losses", call.Society{Members: equal(1)}, truth(0), 0, at(0)},
		{"no losses, and a Treaty", call.Society{Members: equal(1), Treaty: to(1, 9)}, truth(9), 0, at(0)},
		{"no losses, and a Reserve", call.Society{Members: equal(1), Reserve: 9}, truth(0), 0, at(0)},
		{"three losses", call.Society{Members: equal(1), Losses: ranges(to(1, 2), to(10, 20), to(100, 130))}, truth(0, 2, 15, 101), 118, to(111, 152)},
		{"the Reserve is just enough", call.Society{Members: equal(1), Losses: ranges(to(5, 9)), Reserve: 9}, truth(0, 9), 0, at(0)},
		{"the Reserve is a penny too small", call.Society{Members: equal(1), Losses: ranges(to(5, 10)), Reserve: 9}, truth(0, 10), 1, to(0, 1)},
		{"the Treaty is just enough", call.Society{Members: equal(1), Losses: ranges(at(9)), Treaty: to(5, 9)}, truth(9, 9), 0, to(0, 4)},
		{"the Treaty may be more than enough", call.Society{Members: equal(1), Losses: ranges(at(9)), Treaty: to(5, 30)}, truth(30, 9), 0, to(0, 4)},
		{"both together are enough", call.Society{Members: equal(1), Losses: ranges(at(9)), Treaty: at(5), Reserve: 4}, truth(5, 9), 0, at(0)},
		{"the greatest numbers", call.Society{Members: equal(1), Losses: ranges(to(99970, 100000), at(100000), to(99980, 100000))}, truth(0, 100000, 100000, 100000), 300000, to(299950, 300000)},
		{"the greatest Reserve", call.Society{Members: equal(1), Losses: ranges(at(100000), at(7)), Reserve: 100000}, truth(0, 100000, 7), 7, at(7)},
		{"the greatest Treaty", call.Society{Members: equal(1), Losses: ranges(at(100000), at(7)), Treaty: to(99990, 100000)}, truth(99991, 100000, 7), 16, to(7, 17)},
		{"both are the greatest", call.Society{Members: equal(1), Losses: ranges(at(5)), Treaty: at(100000), Reserve: 100000}, truth(100000, 5), 0, at(0)},
	} {
		if n, e := call.Need(x.s, x.u); n != x.need || e != api.OK {
			t.Errorf("%s: Need: %d, %v, not %d", x.name, n, e, x.need)
		}
		if r, e := call.Needs(x.s); r != x.all || e != api.OK {
			t.Errorf("%s: Needs: %v, %v, not %v", x.name, r, e, x.all)
		}
	}
}

// callsCase is a need that is shared, and what is paid and short.
type callsCase struct {
	name  string
	l     []call.Member
	need  int
	calls []int
	short int
}

// checkCalls checks P9.2, with lists that are not the calls.
func checkCalls(t *testing.T, cases []callsCase) {
	t.Helper()
	for _, x := range cases {
		s := call.Society{Members: x.l}
		if l, short, e := call.Calls(s, x.need); !slices.Equal(l, x.calls) || short != x.short || e != api.OK {
			t.Errorf("%s: Calls for %d: %v, %d, %v, not %v, %d", x.name, x.need, l, short, e, x.calls, x.short)
		}
		if !call.ProveCalls(s, x.need, x.calls) {
			t.Errorf("%s: ProveCalls for %d of %v", x.name, x.need, x.calls)
		}
		for _, wrong := range wrongLists(x.calls) {
			if call.ProveCalls(s, x.need, wrong) {
				t.Errorf("%s: ProveCalls for %d of %v", x.name, x.need, wrong)
			}
		}
		if l, short := callsOf(x.l, x.need); !slices.Equal(l, x.calls) || short != x.short {
			t.Errorf("%s: the model has %v, %d", x.name, l, short)
		}
	}
}

// wrongLists are other lists than this one, which is not empty.
func wrongLists(calls []int) [][]int {
	last := len(calls) - 1
	lists := [][]int{nil, ints(), calls[:last], calls[1:], append(slices.Clone(calls), 0)}
	for i := range calls {
		for _, n := range ints(-1, 1, math.MaxInt, math.MinInt) {
			other := slices.Clone(calls)
			other[i] += n
			lists = append(lists, other)
		}
	}
	if calls[0] != calls[last] {
		other := slices.Clone(calls)
		other[0], other[last] = other[last], other[0]
		lists = append(lists, other)
	}
	return lists
}

// TestPence has needs that nobody's Most is less than.
func TestPence(t *testing.T) {
	units := func(l ...int) []call.Member {
		var all []call.Member
		for _, n := range l {
			all = append(all, member(n, 1, 100000))
		}
		return all
	}
	checkCalls(t, []callsCase{
		{"nothing", units(1, 2, 3), 0, ints(0, 0, 0), 0},
		{"one member", units(7), 41, ints(41), 0},
		{"no penny is left over", units(1, 2, 3), 12, ints(2, 4, 6), 0},
		{"a penny of equal members", units(1, 1, 1), 1, ints(1, 0, 0), 0},
		{"two pence of equal members", units(1, 1, 1), 2, ints(1, 1, 0), 0},
		{"three pence of equal members", units(1, 1, 1), 3, ints(1, 1, 1), 0},
		{"four pence of five equal members", units(3, 3, 3, 3, 3), 9, ints(2, 2, 2, 2, 1), 0},
		{"the second remainder is greater", units(1, 2), 1, ints(0, 1), 0},
		{"the first remainder is greater", units(2, 1), 1, ints(1, 0), 0},
		{"the last remainder is the greatest", units(1, 1, 3), 3, ints(1, 0, 2), 0},
		{"equal remainders, and other shares", units(8, 3, 5), 5, ints(2, 1, 2), 0},
		{"an equal remainder of a smaller share is first", units(1, 4, 1), 1, ints(0, 1, 0), 0},
		{"who has more units has no remainder", units(6, 3, 3), 14, ints(7, 4, 3), 0},
		{"two greater remainders, and one of two equal ones", units(5, 5, 4, 4), 9, ints(3, 2, 2, 2), 0},
		{"more than a penny for each is never left over", units(1, 1, 1, 1, 996), 4, ints(0, 0, 0, 0, 4), 0},
		{"the Class counts as the Sum does", members(member(10, 3, 99), member(30, 1, 99), member(1, 10, 99)), 7, ints(3, 3, 1), 0},
		{"a greater Class pays more", members(member(10, 3, 99), member(10, 1, 99)), 4, ints(3, 1), 0},
		{"the greatest units", members(member(1000, 10, 100000), member(1000, 10, 100000), member(1000, 10, 100000), member(1000, 10, 100000), member(1000, 10, 100000)), 299999, ints(60000, 60000, 60000, 60000, 59999), 0},
		{"the greatest and the least units", members(member(1000, 10, 100000), member(1, 1, 100000)), 5000, ints(5000, 0), 0},
		{"the greatest and the least units, half a penny more", members(member(1000, 10, 100000), member(1, 1, 100000)), 5001, ints(5000, 1), 0},
	})
}

// TestMost has needs that somebody's Most is less than.
func TestMost(t *testing.T) {
	checkCalls(t, []callsCase{
		{"just the Most", equal(5, 99), 10, ints(5, 5), 0},
		{"a penny less than the Most", equal(5, 99), 9, ints(5, 4), 0},
		{"the penny makes it greater", equal(5, 99), 11, ints(5, 6), 0},
		{"the other one has the penny", equal(99, 5), 11, ints(6, 5), 0},
		{"two pay their Most at once", equal(1, 99, 2), 30, ints(1, 27, 2), 0},
		{"one after the other", equal(1, 5, 99), 13, ints(1, 5, 7), 0},
		{"all, one after the other, and nothing is short", equal(1, 5, 7), 13, ints(1, 5, 7), 0},
		{"all, one after the other, and a penny is short", equal(1, 5, 6), 13, ints(1, 5, 6), 1},
		{"four rounds", equal(1, 3, 6, 99), 23, ints(1, 3, 6, 13), 0},
		{"five rounds", equal(15, 99, 1, 8, 4), 50, ints(15, 22, 1, 8, 4), 0},
		{"all at once", equal(1, 1, 1), 13, ints(1, 1, 1), 10},
		{"all pay their Most as their share", equal(4, 4, 4), 12, ints(4, 4, 4), 0},
		{"one of them a penny more", equal(4, 4, 4), 13, ints(4, 4, 4), 1},
		{"one has the Most 0", equal(0, 10), 6, ints(0, 6), 0},
		{"one has the Most 0, and nothing is needed", equal(0, 10), 0, ints(0, 0), 0},
		{"one has the Most 0, and no share", equal(10, 0), 1, ints(1, 0), 0},
		{"all have the Most 0", equal(0, 0), 6, ints(0, 0), 6},
		{"all have the Most 0, and nothing is needed", equal(0, 0), 0, ints(0, 0), 0},
		{"one member, just the Most", equal(49), 49, ints(49), 0},
		{"one member, a penny more", equal(49), 50, ints(49), 1},
		{"at once, though one would pay just the Most after the other", members(member(2, 1, 0), member(3, 1, 9), member(5, 1, 9), member(9, 1, 9), member(1, 1, 0)), 9, ints(0, 1, 3, 5, 0), 0},
		{"at once, the greater one first", members(member(7, 1, 16), member(3, 1, 44), member(3, 1, 35), member(5, 1, 13), member(1, 1, 2)), 46, ints(16, 8, 7, 13, 2), 0},
		{"at once, the smaller one first", members(member(9, 1, 12), member(3, 1, 12), member(1, 1, 0), member(7, 1, 12), member(6, 1, 2)), 12, ints(5, 1, 0, 4, 2), 0},
		{"the others share what is left by their units", members(member(4, 1, 10), member(2, 1, 99), member(1, 1, 99)), 40, ints(10, 20, 10), 0},
		{"pence are left over again", members(member(4, 1, 10), member(2, 1, 99), member(1, 1, 99)), 42, ints(10, 21, 11), 0},
		{"the greatest need", members(member(1000, 10, 100000), member(1000, 10, 100000), member(1000, 10, 100000)), 300000, ints(100000, 100000, 100000), 0},
		{"the greatest need of two", members(member(1000, 10, 100000), member(1, 1, 100000)), 300000, ints(100000, 100000), 100000},
	})
}

// TestBounds has P9.3: what is known, and what is not.
func TestBounds(t *testing.T) {
	for _, x := range []struct {
		name   string
		s      call.Society
		bounds []call.Range
		short  call.Range
	}{
		{"nothing is needed", plain(at(0), equal(5, 0)...), ranges(at(0), at(0)), at(0)},
		{"all is known", plain(at(7), equal(99, 99)...), ranges(at(4), at(3)), at(0)},
		{"a penny more or less", plain(to(7, 8), equal(99, 99)...), ranges(at(4), to(3, 4)), at(0)},
		{"one pays the Most in some truths", plain(to(6, 12), equal(5, 99)...), ranges(to(3, 5), to(3, 7)), at(0)},
		{"short in some truths", plain(to(6, 12), equal(5, 4)...), ranges(to(3, 5), to(3, 4)), to(0, 3)},
		{"short in all truths", plain(to(10, 12), equal(5, 4)...), ranges(at(5), at(4)), to(1, 3)},
		{"nobody pays", plain(to(0, 30), equal(0, 0)...), ranges(at(0), at(0)), to(0, 30)},
		{"the bounds lie between the ends of the needs", plain(to(1, 9), member(1, 1, 99), member(2, 2, 99), member(4, 1, 99)), ranges(to(0, 1), to(1, 4), to(0, 4)), at(0)},
		{"a greater need of which one pays less", plain(to(4, 5), member(5, 1, 99), member(5, 1, 99), member(1, 1, 99), member(1, 1, 99)), ranges(at(2), at(2), to(0, 1), at(0)), at(0)},
	} {
		a := ask(t, x.s)
		if !slices.Equal(a.bounds, x.bounds) || a.short != x.short {
			t.Errorf("%s: Bounds, Short: %v, %v, not %v, %v", x.name, a.bounds, a.short, x.bounds, x.short)
		}
		if m := modelOf(x.s); fmt.Sprint(a) != fmt.Sprint(m) {
			t.Errorf("%s: the calls return %v, not %v", x.name, a, m)
		}
	}
}

// TestWithout has P9.4, on the chapter's society.
func TestWithout(t *testing.T) {
	none := at(0)
	for _, x := range []struct {
		out  []int
		want []call.Range
	}{
		{nil, ranges(to(117, 127), to(59, 60), to(59, 63))},
		{ints(), ranges(to(117, 127), to(59, 60), to(59, 63))},
		{ints(0), ranges(none, at(60), to(175, 190))},
		{ints(1), ranges(to(157, 167), none, to(78, 83))},
		{ints(2), ranges(to(175, 190), at(60), none)},
		{ints(0, 1), ranges(none, none, to(235, 250))},
		{ints(0, 2), ranges(none, at(60), none)},
		{ints(1, 2), ranges(to(235, 250), none, none)},
		{ints(0, 1, 2), ranges(none, none, none)},
	} {
		if l, e := call.Without(chapter(), x.out); !slices.Equal(l, x.want) || e != api.OK {
			t.Errorf("Without of %v: %v, %v, not %v", x.out, l, e, x.want)
		}
	}
}

// TestRate has P9.5.
func TestRate(t *testing.T) {
	for _, x := range []struct {
		name string
		s    call.Society
		want int
	}{
		{"nothing is needed", plain(at(0), equal(5)...), 0},
		{"a penny of a hundred units", plain(at(1), member(100, 1, 9)), 1},
		{"a penny of one unit", plain(at(1), equal(9)...), 100},
		{"a penny of two members with one unit", plain(at(1), equal(9, 9)...), 100},
		{"each one's part is rounded down", plain(at(3), member(3, 1, 9), member(3, 1, 9)), 67},
		{"the need is the greatest one", plain(to(1, 5), member(100, 1, 9)), 5},
		{"the Class counts", plain(at(5), member(100, 5, 9)), 1},
		{"one pays the Most", plain(at(10), member(100, 1, 2), member(100, 1, 99)), 8},
		{"all pay their Most", plain(at(10), member(100, 1, 2), member(100, 1, 8)), 8},
		{"a penny more than all can pay", plain(at(11), member(100, 1, 2), member(100, 1, 8)), -1},
		{"the greatest rate", plain(at(100), equal(100000)...), 10000},
		{"more than the greatest rate", plain(at(101), equal(100000)...), -1},
		{"the greatest units", plain(at(100000), member(1000, 10, 100000)), 1000},
		{"the Reserve pays", call.Society{Members: members(member(100, 1, 99)), Losses: ranges(at(50)), Reserve: 20}, 30},
		{"the Treaty pays at least", call.Society{Members: members(member(100, 1, 99)), Losses: ranges(at(50)), Treaty: to(20, 30)}, 30},
	} {
		if a := ask(t, x.s); a.rate != x.want {
			t.Errorf("%s: Rate: %d, not %d", x.name, a.rate, x.want)
		}
	}
}

// TestMissed has P9.5.
func TestMissed(t *testing.T) {
	for _, x := range []struct {
		name   string
		s      call.Society
		want   []int
		nobody bool
	}{
		{"nothing is needed", plain(at(0), equal(5, 5)...), nil, true},
		{"short although all are asked", plain(at(11), equal(5, 5)...), nil, false},
		{"short in some truth although all are asked", plain(to(10, 11), equal(5, 5)...), nil, false},
		{"one member", plain(at(5), equal(5)...), ints(0), false},
		{"each one is missed", plain(at(10), equal(5, 5)...), ints(0), false},
		{"only the last one is missed alone", plain(at(10), equal(4, 5, 10)...), ints(2), false},
		{"only the middle one is missed alone", plain(at(10), equal(4, 10, 5)...), ints(1), false},
		{"nobody is missed alone", plain(at(10), equal(10, 10)...), ints(0, 1), false},
		{"two of three", plain(at(10), equal(9, 10, 9)...), ints(0, 1), false},
		{"the second two of three", plain(at(10), equal(4, 10, 10)...), ints(1, 2), false},
		{"the first one and the third one", plain(at(10), equal(10, 4, 10)...), ints(0, 2), false},
		{"all five", plain(at(10), equal(10, 10, 10, 10, 10)...), ints(0, 1, 2, 3, 4), false},
		{"three of five", plain(at(10), equal(10, 0, 10, 0, 10)...), ints(0, 2, 4), false},
		{"who has the Most 0 is not missed", plain(at(10), equal(0, 10, 0)...), ints(1), false},
		{"in the greatest need only", plain(to(9, 10), equal(9, 9, 1)...), ints(0, 1), false},
		{"by what they pay, not by their units", plain(at(10), member(900, 9, 1), member(1, 1, 9)), ints(0), false},
	} {
		if a := ask(t, x.s); !slices.Equal(a.missed, x.want) || a.nobody != x.nobody {
			t.Errorf("%s: Missed: %v, %v, not %v", x.name, a.missed, a.nobody, x.want)
		}
	}
}

// TestGreatest has societies with as many truths as there may be, and the greatest numbers.
func TestGreatest(t *testing.T) {
	wide := to(99970, 100000)
	s := call.Society{
		Members: members(member(1000, 10, 100000), member(1000, 10, 59999), member(999, 10, 100000), member(1000, 9, 50000), member(1, 1, 2)),
		Losses:  ranges(wide, wide, wide),
		Treaty:  to(1, 31),
		Reserve: 3,
	}
	a := ask(t, s)
	want := ranges(to(94985, 95045), at(59999), to(94890, 94950), at(50000), at(2))
	if a.needs != to(299876, 299996) || a.short != at(0) || !slices.Equal(a.missed, ints(0)) {
		t.Errorf("the calls return %v", a)
	}
	var bounds []call.Range
	for need := a.needs.Lo; need <= a.needs.Hi; need++ {
		calls, _ := callsOf(s.Members, need)
		for i, n := range calls {
			if len(bounds) <= i {
				bounds = append(bounds, at(n))
			}
			bounds[i] = to(min(bounds[i].Lo, n), max(bounds[i].Hi, n))
		}
	}
	if !slices.Equal(a.bounds, bounds) || !slices.Equal(bounds, want) {
		t.Errorf("Bounds: %v, not %v, nor %v", a.bounds, bounds, want)
	}
	if rate := a.rate; broughtBy(s.Members, rate) < 299996 || broughtBy(s.Members, rate-1) >= 299996 {
		t.Errorf("Rate: %d", rate)
	}
}

// TestMemory checks R4: arguments stay as they were, results can be written to, and equal calls return equal results.
func TestMemory(t *testing.T) {
	for i, s := range append(societies(1, 150), chapter()) {
		all := truths(s)
		kept := all[i%len(all)]
		arguments, u, list := clone(s), truth(kept.Treaty, roomy(kept.Losses)...), roomy(ints(0))
		first := everything(arguments, u, i, list)
		calls, _, _ := call.Calls(arguments, i)
		writeTo(calls, 77)
		bounds, _ := call.Bounds(arguments)
		writeTo(bounds, to(7, 77))
		bounds, _ = call.Without(arguments, list)
		writeTo(bounds, to(7, 77))
		missed, _ := call.Missed(arguments)
		writeTo(missed, 77)
		if everything(arguments, u, i, list) != first {
			t.Fatalf("not the same again: %v", s)
		}
		if !same(arguments, s) || fmt.Sprint(u) != fmt.Sprint(kept) || behind(u.Losses) != "[0 0]" || !slices.Equal(list, ints(0)) || behind(list) != "[0 0]" {
			t.Fatalf("written to: %v, %v, %v", s, u, list)
		}
	}
}

func writeTo[T any](l []T, x T) {
	for k := range l {
		l[k] = x
	}
	_ = append(l, x)
}
