package book_test

import (
	"fmt"
	"slices"
	"strconv"
	"strings"
	"testing"

	"hailstone/api"
	"hailstone/book"
	"hailstone/call"
	"hailstone/parcel"
	"hailstone/tariff"
	"hailstone/zone"
)

// wordOf is the word of a line that is one.
func wordOf(line string) string {
	word, _, _ := strings.Cut(line, " ")
	return word
}

// TestSessions checks that there are enough sessions of each sort for the other tests.
func TestSessions(t *testing.T) {
	sorts := map[string]int{}
	for _, l := range sessions(1, 200, 40) {
		s, errors := play(t, l)
		for i, e := range errors {
			sorts[fmt.Sprint("error ", int(e))]++
			if e == api.OK {
				sorts[wordOf(l[i])]++
			}
		}
		society := societyOf(t, l)
		for sort, is := range map[string]bool{
			"three entries":             len(s.Book.Entries) > 2,
			"five entries":              len(s.Book.Entries) > 4,
			"several truths":            numberOf(s.Book) > 5,
			"three losses":              len(s.Losses) == 3,
			"a loss that is paid":       slices.ContainsFunc(society.Losses, func(r call.Range) bool { return r.Lo > 0 }),
			"a loss that is perhaps":    slices.ContainsFunc(society.Losses, func(r call.Range) bool { return r.Lo == 0 && r.Hi > 0 }),
			"pence that are not known":  slices.ContainsFunc(society.Losses, func(r call.Range) bool { return r.Lo < r.Hi }),
			"three members":             len(s.Members) > 2,
			"three years":               len(s.Zone.Years) > 2,
			"an exempt year":            slices.ContainsFunc(s.Zone.Years, func(y zone.Year) bool { return y.Exempt }),
			"something is called":       strings.Contains(strings.Join(report(t, l), " "), "member 0..1"),
			"prices that are not known": len(slices.Compact(classesOf(s.Zone.Years, 1, false))) > 1,
		} {
			if is {
				sorts[sort]++
			}
		}
	}
	for sort, least := range map[string]int{"error 0": 2000, "error 2": 100, "error 3": 10, "error 4": 40, "error 7": 200, "error 8": 20, "error 9": 40, "error 10": 2, "three entries": 40, "five entries": 12, "several truths": 40, "three losses": 60, "a loss that is paid": 25, "a loss that is perhaps": 5, "pence that are not known": 20, "three members": 25, "three years": 40, "an exempt year": 10, "something is called": 3, "prices that are not known": 30} {
		if sorts[sort] < least {
			t.Errorf("%s: %d", sort, sorts[sort])
		}
	}
	for word := range words() {
		if sorts[word] < 20 {
			t.Errorf("%s: %d", word, sorts[word])
		}
	}
}

// TestModel checks P12.1 to P12.5.
func TestModel(t *testing.T) {
	all := sessions(2, 200, 40)
	for i, l := range all {
		if a, m := ask(t, l), modelOf(l); fmt.Sprint(a) != fmt.Sprint(m) {
			t.Fatalf("the calls return %v of %q, not %v", a, l, m)
		}
		read := fileOf(all[(i+1)%len(all)])
		read = read[:i*7%(len(read)+1)]
		lines, n := book.Recover(read)
		if model, m := readOf(read); !slices.Equal(lines, model) || n != m {
			t.Fatalf("Recover of %q: %q, %d, not %q, %d", read, lines, n, model, m)
		}
		file, e := book.Resume(read, l)
		want, f := resumeOf(read, l), api.OK
		if model, _ := readOf(want); string(fileOf(model)) != string(want) {
			want, f = nil, api.ErrLimit // more lines than a file can have
		}
		if string(file) != string(want) || e != f {
			t.Fatalf("Resume of %q, %q: %q, %v, not %q, %v", read, l, file, e, want, f)
		}
	}
}

// TestReplayed checks P12.6, and P8: lines that are executed again make the same state.
func TestReplayed(t *testing.T) {
	for _, l := range append(sessions(3, 100, 40), chapter(), full()) {
		s, errors := play(t, l)
		if again, same := play(t, l); fmt.Sprint(again) != fmt.Sprint(s) || !slices.Equal(same, errors) {
			t.Fatalf("Play of %q: %v, then %v", l, s, again)
		}
		rest := onlyAccepted(l, errors)
		if again := accepted(t, rest); !same(s, again) {
			t.Fatalf("Play of the accepted ones of %q: %v, not %v", l, again, s)
		}
	}
}

// TestItStands checks P12.7 after each line, by the packages themselves.
func TestItStands(t *testing.T) {
	for _, l := range append(sessions(4, 20, 40), chapter(), full()) {
		for n := range len(l) + 1 {
			s, _ := play(t, l[:n])
			if e := parcel.CheckBook(s.Book); e != api.OK {
				t.Fatalf("CheckBook after %q: %v", l[:n], e)
			}
			if out, e := parcel.Leave(s.Book); len(out) > 0 || e != api.OK {
				t.Fatalf("Leave after %q: %v, %v", l[:n], out, e)
			}
			if e := tariff.CheckTariffs([]tariff.Tariff{s.Tariff}); e != api.OK {
				t.Fatalf("CheckTariffs after %q: %v", l[:n], e)
			}
			if e := call.CheckSociety(societyOf(t, l[:n])); e != api.OK {
				t.Fatalf("CheckSociety after %q: %v", l[:n], e)
			}
			if e := zone.CheckZone(zoneRule(), s.Zone); e != api.OK {
				t.Fatalf("CheckZone after %q: %v", l[:n], e)
			}
		}
	}
}

// parts are what a state and its report have, each as a text.
type parts struct {
	entries, tariff, losses, members, money, zone, classes, price string
	pence                                                         []call.Range
}

func partsOf(t *testing.T, l []string) parts {
	t.Helper()
	s, _ := play(t, l)
	society := societyOf(t, l)
	var classes []int
	for _, m := range society.Members {
		classes = append(classes, m.Class)
	}
	return parts{
		entries: fmt.Sprint(s.Book), tariff: fmt.Sprint(s.Tariff), losses: fmt.Sprint(s.Losses), members: fmt.Sprint(s.Members),
		money: fmt.Sprint(s.Treaty, s.Reserve), zone: fmt.Sprint(s.Zone), classes: fmt.Sprint(slices.Compact(classes)),
		price: report(t, l)[2], pence: society.Losses,
	}
}

// TestWhatDepends checks P12.8, line by line.
func TestWhatDepends(t *testing.T) {
	for _, l := range append(sessions(5, 40, 40), chapter(), full()) {
		_, errors := play(t, l)
		l = onlyAccepted(l, errors)
		before := partsOf(t, nil)
		for n, line := range l {
			after := partsOf(t, l[:n+1])
			want := after // but for what must not change
			switch word := wordOf(line); word {
			case "parcel", "sell", "split", "swap", "harvest", "strike", "days", "sown":
				want = before
				want.entries, want.pence = after.entries, after.pence
			case "least", "whole", "rate":
				want = before
				want.tariff, want.pence = after.tariff, after.pence
			case "hail", "count", "drop":
				want = before
				want.losses, want.pence = after.losses, penceAfter(before.pence, after.pence, line)
			case "member", "most", "leave":
				want = before
				want.members = after.members
			case "treaty", "reserve":
				want = before
				want.money = after.money
			default:
				want = before
				want.zone, want.classes, want.price = after.zone, after.classes, after.price
			}
			if fmt.Sprint(after) != fmt.Sprint(want) {
				t.Fatalf("%q after %q changes %v to %v", line, l[:n], before, after)
			}
			before = after
		}
	}
}

// penceAfter are the pence after a line about losses: only those of its own loss can be others.
func penceAfter(before, after []call.Range, line string) []call.Range {
	k, _ := strconv.Atoi(strings.Fields(line)[1])
	switch wordOf(line) {
	case "hail":
		return append(slices.Clone(before), after[len(before):]...)
	case "drop":
		return drop(before, k)
	}
	want := slices.Clone(before)
	want[k] = after[k]
	return want
}

// undoing are lines that can be accepted after some others, each with the line that takes it back.
func undoing(s book.State) [][2]string {
	var all [][2]string
	entries, losses, members := len(s.Book.Entries), len(s.Losses), len(s.Members)
	for _, line := range of("sell 0 0 1 9 9; sell 1 1 0 9 10; sell 2 2 3 12 12; swap 0 1 9 9; swap 1 2 13 14; harvest 0 9 9; harvest 1 14 14; harvest 2 3 15") {
		all = append(all, [2]string{line, fmt.Sprint("strike ", entries)})
	}
	for _, line := range of("hail 0 5 50 50; hail 1 12 20 22; hail 2 0 100 100; hail 3 30 0 100") {
		all = append(all, [2]string{line, fmt.Sprint("drop ", losses)})
	}
	for _, line := range of("member 5 6; member 1000 9999; member 1 0") {
		all = append(all, [2]string{line, fmt.Sprint("leave ", members)})
	}
	for _, line := range of("year 500 500 100 100 9; year 0 0 100 100 5; year 0 5 0 5 4") {
		all = append(all, [2]string{line, "undo"})
	}
	return all
}

// TestUndone checks P12.9.
func TestUndone(t *testing.T) {
	undone := map[string]int{}
	for _, l := range append(sessions(6, 60, 38), nil, chapter(), full()) {
		s, _ := play(t, l)
		for _, x := range undoing(s) {
			if _, e := last(t, with(l, x[0])); e != api.OK {
				continue
			}
			undone[wordOf(x[0])]++
			if again, e := last(t, with(l, x[0], x[1])); !same(s, again) || e != api.OK {
				t.Fatalf("%q and %q after %q: %v, %v, not %v", x[0], x[1], l, again, e, s)
			}
		}
	}
	for _, word := range of("sell; swap; harvest; hail; member; year") {
		if undone[word] < 20 {
			t.Errorf("%s: %d", word, undone[word])
		}
	}
}

// asItWas are lines that write something as it is.
func asItWas(s book.State) []string {
	var l []string
	for k, e := range s.Book.Entries {
		l = append(l, fmt.Sprint("days ", k, " ", e.Day.Lo, " ", e.Day.Hi))
	}
	for k, p := range s.Book.Parcels {
		l = append(l, fmt.Sprint("sown ", k, " ", p.Sown.Lo, " ", p.Sown.Hi))
	}
	for week, rates := range s.Tariff.Rates[0] {
		for k, rate := range rates {
			l = append(l, fmt.Sprint("rate ", week, " ", k, " ", rate))
		}
	}
	for k, x := range s.Losses {
		l = append(l, fmt.Sprint("count ", k, " ", x.Count.Lo, " ", x.Count.Hi))
	}
	for k, m := range s.Members {
		l = append(l, fmt.Sprint("most ", k, " ", m.Most))
	}
	flag := map[bool]int{true: 1}
	for k, y := range s.Zone.Years {
		l = append(l, fmt.Sprint("exempt ", k, " ", flag[y.Exempt]))
	}
	return append(l, fmt.Sprint("least ", s.Tariff.Least), fmt.Sprint("whole ", flag[s.Tariff.Whole]), fmt.Sprint("reserve ", s.Reserve), fmt.Sprint("treaty ", s.Treaty.Lo, " ", s.Treaty.Hi))
}

// TestCorrected checks P12.10.
func TestCorrected(t *testing.T) {
	for _, l := range append(sessions(7, 25, 39), nil, chapter(), full()) {
		s, _ := play(t, l)
		for _, line := range asItWas(s) {
			if again, e := last(t, with(l, line)); !same(s, again) || e != api.OK {
				t.Fatalf("%q after %q: %v, %v, not %v", line, l, again, e, s)
			}
		}
	}
}

// widened are lines that make days wider.
func widened(s book.State) []string {
	var l []string
	add := func(word string, k int, r parcel.Range) {
		for _, more := range [][2]int{{1, 0}, {0, 1}, {1, 1}} {
			low, high := max(r.Lo-more[0], 0), min(r.Hi+more[1], 30)
			l = append(l, fmt.Sprint(word, " ", k, " ", low, " ", high))
		}
	}
	for k, e := range s.Book.Entries {
		add("days", k, e.Day)
	}
	for k, p := range s.Book.Parcels {
		add("sown", k, p.Sown)
	}
	return l
}

// nearDays are sessions in which the days of entries and of losses are next to each other.
func nearDays() [][]string {
	var all [][]string
	for day := 2; day < 8; day++ {
		for hail := day - 2; hail < day+4; hail++ {
			l := of("parcel 0 60 0 0; parcel 1 10 3 4")
			l = append(l, fmt.Sprint("sell 0 0 1 ", day, " ", day), fmt.Sprint("harvest 1 ", day+2, " ", day+2))
			all = append(all, append(l, fmt.Sprint("hail 0 ", hail, " 50 50"), fmt.Sprint("hail 1 ", hail, " 50 60")))
		}
	}
	return all
}

// TestWider checks P12.11.
func TestWider(t *testing.T) {
	wider := 0
	contains := func(a, b call.Range) bool { return a.Lo <= b.Lo && a.Hi >= b.Hi }
	for _, l := range append(slices.Concat(sessions(8, 60, 30), nearDays()), chapter(), full()) {
		s, _ := play(t, l)
		before := societyOf(t, l)
		need, _ := call.Needs(before)
		for _, line := range widened(s) {
			if _, e := last(t, with(l, line)); e != api.OK {
				continue
			}
			after := societyOf(t, with(l, line))
			for k, pence := range after.Losses {
				if !contains(pence, before.Losses[k]) {
					t.Fatalf("%q after %q: the loss %d has %v, not %v", line, l, k, pence, before.Losses[k])
				}
				if pence != before.Losses[k] {
					wider++
				}
			}
			if now, e := call.Needs(after); !contains(now, need) || e != api.OK {
				t.Fatalf("%q after %q: the need is %v, %v, not %v", line, l, now, e, need)
			}
		}
	}
	if wider < 60 {
		t.Errorf("%d losses have wider pence", wider)
	}
}

// TestFiles checks P12.12.
func TestFiles(t *testing.T) {
	for _, l := range append(sessions(9, 60, 40), chapter(), full(), []string{"", "\n", "0082:00:\n", "x"}) {
		file := write(t, l)
		if lines, n := book.Recover(file); !slices.Equal(lines, l) || n != len(file) {
			t.Fatalf("Recover of the file of %q: %q, %d", l, lines, n)
		}
		whole, end := 0, 0 // the records that are whole in the first bytes
		for cut := range len(file) + 1 {
			if whole < len(l) && end+len(l[whole])+9 <= cut {
				end += len(l[whole]) + 9
				whole++
			}
			if lines, n := book.Recover(file[:cut]); !slices.Equal(lines, l[:whole]) || n != end {
				t.Fatalf("Recover of %d bytes of the file of %q: %q, %d", cut, l, lines, n)
			}
		}
	}
}

// TestPlaces checks the last part of P12.12: of a file in which a record is somewhere else, only those before it can be read.
func TestPlaces(t *testing.T) {
	lists := [][]string{times(40, ""), times(40, "a"), times(40, "undo"), full(), times(40, strings.Repeat("\xff", 60))}
	for _, l := range lists {
		for at := range l {
			for from := range l {
				moved := with(l[:at], l[from])
				b := append(fileOf(l[:at]), recordOf(from, l[from])...)
				lines, n := book.Recover(b)
				if from == at && (!slices.Equal(lines, moved) || n != len(b)) || from != at && (!slices.Equal(lines, l[:at]) || n != len(fileOf(l[:at]))) {
					t.Fatalf("Recover of %q, the record %d of which is %d: %q, %d", l, at, from, lines, n)
				}
			}
		}
	}
}

// TestGoesOn checks P12.13.
func TestGoesOn(t *testing.T) {
	for _, l := range append(sessions(10, 8, 20), chapter(), full()) {
		_, errors := play(t, l)
		rest := onlyAccepted(l, errors)
		file := write(t, rest)
		for _, nothing := range [][]byte{nil, {}} {
			if made := resume(t, nothing, l); string(made) != string(file) {
				t.Fatalf("Resume of nothing, %q: %q, not %q", l, made, file)
			}
		}
		for cut := range len(file) + 1 {
			lines, _ := readOf(file[:cut])
			if made := resume(t, file[:cut], rest[len(lines):]); string(made) != string(file) {
				t.Fatalf("Resume of %q, %q: %q, not %q", file[:cut], rest[len(lines):], made, file)
			}
		}
	}
}

// TestDamagedFile checks P8: a file that is damaged is read up to where it is complete, and goes on from there.
func TestDamagedFile(t *testing.T) {
	l := chapter()
	file := write(t, l)
	for at := range file {
		damaged := slices.Clone(file)
		damaged[at] ^= 1
		lines, n := book.Recover(damaged)
		if n > at || !slices.Equal(lines, l[:len(lines)]) || len(fileOf(l[:len(lines)+1])) <= at {
			t.Fatalf("Recover of %q: %q, %d", damaged, lines, n)
		}
		if made := resume(t, damaged, l[len(lines):]); string(made) != string(file) {
			t.Fatalf("Resume of %q, %q: %q", damaged, l[len(lines):], made)
		}
	}
}

// TestAnyOrder checks P7: losses and members in another order.
func TestAnyOrder(t *testing.T) {
	hails := of("hail 0 5 20 25; hail 2 9 50 50; hail 1 7 100 100")
	members := of("member 50 30; member 50 9999; member 7 3")
	rest := slices.DeleteFunc(chapter(), func(line string) bool { return wordOf(line) == "hail" || wordOf(line) == "member" })
	plain := societyOf(t, slices.Concat(rest, hails, members))
	need, _ := call.Needs(plain)
	rate, _ := call.Rate(plain)
	calls, _ := call.Bounds(plain)
	for _, order := range [][]int{{0, 1, 2}, {0, 2, 1}, {1, 0, 2}, {1, 2, 0}, {2, 0, 1}, {2, 1, 0}} {
		l := rest
		for _, k := range order {
			l = with(l, hails[k], members[k])
		}
		s := societyOf(t, l)
		for i, k := range order {
			if s.Losses[i] != plain.Losses[k] || s.Members[1+i] != plain.Members[1+k] {
				t.Errorf("Society of %q: %v, not %v", l, s, plain)
			}
		}
		if n, e := call.Needs(s); n != need || e != api.OK {
			t.Errorf("the need of %q: %v, not %v", l, n, need)
		}
		if n, e := call.Rate(s); n != rate || e != api.OK {
			t.Errorf("the rate of %q: %v, not %v", l, n, rate)
		}
		bounds, e := book.Calls(l)
		for i, k := range order {
			if a, b := bounds[1+i], calls[1+k]; e != api.OK || max(a.Lo-b.Lo, b.Lo-a.Lo, a.Hi-b.Hi, b.Hi-a.Hi) > 1 {
				t.Errorf("Calls of %q: %v, not %v", l, bounds, calls)
			}
		}
	}
}
