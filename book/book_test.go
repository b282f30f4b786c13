package book_test

import (
	"bytes"
	"fmt"
	"math/rand/v2"
	"slices"
	"strings"
	"testing"

	"hailstone/api"
	"hailstone/book"
	"hailstone/call"
	"hailstone/parcel"
	"hailstone/tariff"
	"hailstone/zone"
)

// chapterState is the state after the lines of the chapter.
func chapterState() book.State {
	s := first()
	s.Book.Parcels = []parcel.Parcel{
		{Owner: 0, Value: 100, Sown: parcel.Range{Lo: 2, Hi: 3}},
		{Owner: 1, Value: 60, Sown: parcel.Range{Lo: 0, Hi: 0}},
	}
	s.Book.Entries = []parcel.Entry{
		{Kind: parcel.Sell, Parcel: 0, From: 0, To: 2, Day: parcel.Range{Lo: 4, Hi: 6}},
		{Kind: parcel.Split, Parcel: 0, Part: 30, Day: parcel.Range{Lo: 5, Hi: 5}},
		{Kind: parcel.Swap, Parcel: 2, Other: 1, Day: parcel.Range{Lo: 6, Hi: 7}},
		{Kind: parcel.Harvest, Parcel: 1, Day: parcel.Range{Lo: 8, Hi: 8}},
	}
	s.Losses = []book.Loss{
		{Owner: 0, Day: 5, Count: tariff.Range{Lo: 20, Hi: 25}},
		{Owner: 2, Day: 9, Count: tariff.Range{Lo: 50, Hi: 50}},
	}
	s.Members = []book.Member{{Sum: 100, Most: 9999}, {Sum: 50, Most: 30}}
	s.Treaty, s.Reserve = to(2, 5), 10
	s.Zone.Years = []zone.Year{
		{Losses: zone.Range{Lo: 50, Hi: 50}, Premiums: zone.Range{Lo: 100, Hi: 102}, Parcels: 9},
		{Losses: zone.Range{Lo: 130, Hi: 131}, Premiums: zone.Range{Lo: 108, Hi: 109}, Parcels: 9},
	}
	return s
}

// TestExamples has the examples of the chapter.
func TestExamples(t *testing.T) {
	l := chapter()
	if s := accepted(t, l); !same(s, chapterState()) {
		t.Errorf("Play: %v", s)
	}
	want := call.Society{
		Members: []call.Member{{Sum: 100, Class: 3, Most: 9999}, {Sum: 50, Class: 3, Most: 30}},
		Losses:  []call.Range{to(0, 20), at(28)}, Treaty: to(2, 5), Reserve: 10,
	}
	if society := societyOf(t, l); fmt.Sprint(society) != fmt.Sprint(want) {
		t.Errorf("Society: %v", society)
	}
	if calls, e := book.Calls(l); !slices.Equal(calls, []call.Range{to(9, 24), to(4, 12)}) || e != api.OK {
		t.Errorf("Calls: %v, %v", calls, e)
	}
	if text, e := book.Report(l); text != "need 13..36\nrate 8\nprice 20..40\nloss 0..20\nloss 28..28\nmember 9..24\nmember 4..12\n" || e != api.OK {
		t.Errorf("Report: %q, %v", text, e)
	}
	if calls, e := book.Calls(with(l, "days 0 6 6")); !slices.Equal(calls, []call.Range{to(19, 24), to(10, 12)}) || e != api.OK {
		t.Errorf("Calls: %v, %v", calls, e)
	}
	more := of("parcel 0 1 0 0; sell 0 0 0 1 1; sell 3 0 1 1 1; strike 1; strike 4; harvest 0 1 1; count 0 20 70; count 2 1 1; leave 2; exempt 1 2; year 0 6 0 0 1; least 101; least 08; hail")
	s, errors := play(t, with(l, more...))
	if want := []api.Errno{8, 2, 7, 8, 7, 9, 10, 7, 7, 2, 2, 2, 4, 4}; !slices.Equal(errors[len(l):], want) {
		t.Errorf("the errors of further lines: %v", errors[len(l):])
	}
	if !same(s, chapterState()) {
		t.Errorf("further lines change the state: %v", s)
	}
	if file, e := book.Write([]string{"a"}); string(file) != "0332:01:a\n" || e != api.OK {
		t.Errorf("Write: %q, %v", file, e)
	}
	if a, m := ask(t, l), modelOf(l); fmt.Sprint(a) != fmt.Sprint(m) {
		t.Errorf("the calls return %v, not %v", a, m)
	}
}

// TestExampleOfDocument has the first and the last example of the document.
func TestExampleOfDocument(t *testing.T) {
	s, errors := play(t, of("parcel 0 100 0 0; split 0 30 1 1; this makes no sense"))
	held, e := parcel.Play(s.Book, parcel.Truth{Days: []int{1}, Sown: []int{0}}, 1)
	if e != api.OK || len(held) != 2 || held[0].Value != 70 || held[1].Value != 30 || held[0].Owner != held[1].Owner {
		t.Errorf("the parcels: %v, %v", held, e)
	}
	if errors[2] != api.ErrForm || !same(s, accepted(t, of("parcel 0 100 0 0; split 0 30 1 1"))) {
		t.Errorf("Play: %v, %v", s, errors)
	}
}

// TestFirst has the state at first.
func TestFirst(t *testing.T) {
	for _, l := range [][]string{nil, {}, {""}, {"x", "y"}} {
		if s, _ := play(t, l); !same(s, first()) {
			t.Errorf("Play of %q: %v", l, s)
		}
		want := answers{state: first(), society: call.Society{Members: []call.Member{{Sum: 100, Class: 2, Most: 9999}}}, calls: []call.Range{at(0)}, report: "need 0..0\nrate 0\nprice 20..20\nmember 0..0\n"}
		for range l {
			want.errors = append(want.errors, api.ErrForm)
		}
		want.file = fileOf(l)
		if a := ask(t, l); fmt.Sprint(a) != fmt.Sprint(want) {
			t.Errorf("the calls return %v of %q", a, l)
		}
	}
	if s, errors, e := book.Play(nil); len(errors) != 0 || e != api.OK || s.Book.Last != 30 || s.Book.Owners != 4 || s.Reserve != 0 {
		t.Errorf("Play: %v, %v, %v", s, errors, e)
	}
}

// TestEffects has what each line does, after those of the chapter.
func TestEffects(t *testing.T) {
	days := func(low, high int) parcel.Range { return parcel.Range{Lo: low, Hi: high} }
	for _, x := range []struct {
		line   string
		change func(s *book.State)
	}{
		{"sell 0 2 3 9 10", func(s *book.State) {
			s.Book.Entries = append(s.Book.Entries, parcel.Entry{Kind: 0, Parcel: 0, From: 2, To: 3, Day: days(9, 10)})
		}},
		{"split 2 7 11 12", func(s *book.State) {
			s.Book.Entries = append(s.Book.Entries, parcel.Entry{Kind: 1, Parcel: 2, Part: 7, Day: days(11, 12)})
		}},
		{"swap 0 2 9 11", func(s *book.State) {
			s.Book.Entries = append(s.Book.Entries, parcel.Entry{Kind: 2, Parcel: 0, Other: 2, Day: days(9, 11)})
		}},
		{"harvest 2 20 30", func(s *book.State) {
			s.Book.Entries = append(s.Book.Entries, parcel.Entry{Kind: 3, Parcel: 2, Day: days(20, 30)})
		}},
		{"strike 0", func(s *book.State) { s.Book.Entries = s.Book.Entries[1:] }},
		{"strike 2", func(s *book.State) { s.Book.Entries = drop(s.Book.Entries, 2) }},
		{"strike 3", func(s *book.State) { s.Book.Entries = s.Book.Entries[:3] }},
		{"days 0 6 6", func(s *book.State) { s.Book.Entries[0].Day = days(6, 6) }},
		{"days 3 8 30", func(s *book.State) { s.Book.Entries[3].Day = days(8, 30) }},
		{"sown 0 0 1", func(s *book.State) { s.Book.Parcels[0].Sown = days(0, 1) }},
		{"sown 1 2 3", func(s *book.State) { s.Book.Parcels[1].Sown = days(2, 3) }},
		{"least 9", func(s *book.State) { s.Tariff.Least = 9 }},
		{"whole 0", func(s *book.State) { s.Tariff.Whole = false }},
		{"whole 1", func(s *book.State) {}},
		{"rate 0 1 41", func(s *book.State) { s.Tariff.Rates[0][0][1] = 41 }},
		{"rate 1 2 3", func(s *book.State) { s.Tariff.Rates[0][1][2] = 3 }},
		{"rate 1 0 100", func(s *book.State) { s.Tariff.Rates[0][1][0] = 100 }},
		{"hail 3 7 8 9", func(s *book.State) {
			s.Losses = append(s.Losses, book.Loss{Owner: 3, Day: 7, Count: tariff.Range{Lo: 8, Hi: 9}})
		}},
		{"count 0 21 22", func(s *book.State) { s.Losses[0].Count = tariff.Range{Lo: 21, Hi: 22} }},
		{"count 1 0 50", func(s *book.State) { s.Losses[1].Count = tariff.Range{Lo: 0, Hi: 50} }},
		{"drop 0", func(s *book.State) { s.Losses = s.Losses[1:] }},
		{"drop 1", func(s *book.State) { s.Losses = s.Losses[:1] }},
		{"member 7 8", func(s *book.State) { s.Members = append(s.Members, book.Member{Sum: 7, Most: 8}) }},
		{"most 0 5", func(s *book.State) { s.Members[0].Most = 5 }},
		{"most 1 6", func(s *book.State) { s.Members[1].Most = 6 }},
		{"leave 0", func(s *book.State) { s.Members = s.Members[1:] }},
		{"leave 1", func(s *book.State) { s.Members = s.Members[:1] }},
		{"treaty 7 9", func(s *book.State) { s.Treaty = to(7, 9) }},
		{"reserve 11", func(s *book.State) { s.Reserve = 11 }},
		{"year 1 2 3 4 5", func(s *book.State) {
			s.Zone.Years = append(s.Zone.Years, zone.Year{Losses: zone.Range{Lo: 1, Hi: 2}, Premiums: zone.Range{Lo: 3, Hi: 4}, Parcels: 5})
		}},
		{"exempt 0 1", func(s *book.State) { s.Zone.Years[0].Exempt = true }},
		{"exempt 1 1", func(s *book.State) { s.Zone.Years[1].Exempt = true }},
		{"exempt 1 0", func(s *book.State) {}},
		{"undo", func(s *book.State) { s.Zone.Years = s.Zone.Years[:1] }},
	} {
		want := chapterState()
		x.change(&want)
		if s, e := last(t, with(chapter(), x.line)); !same(s, want) || e != api.OK {
			t.Errorf("after %q: %v, %v, not %v", x.line, s, e, want)
		}
	}
	want := first()
	want.Book.Parcels = []parcel.Parcel{{Owner: 3, Value: 7, Sown: days(5, 9)}}
	if s := accepted(t, of("parcel 3 7 5 9")); !same(s, want) {
		t.Errorf("after a parcel: %v", s)
	}
	if s := accepted(t, with(chapter(), "exempt 0 1", "exempt 1 1", "exempt 0 0")); s.Zone.Years[0].Exempt || !s.Zone.Years[1].Exempt {
		t.Errorf("after lines about Exempt: %v", s)
	}
	if s := accepted(t, of("whole 0; whole 1")); !same(s, first()) {
		t.Errorf("after lines about Whole: %v", s)
	}
}

// societyCase is what Society and Report have to return.
type societyCase struct {
	name    string
	before  []string
	lines   string
	members []call.Member
	losses  []call.Range
	report  string
}

func checkSocieties(t *testing.T, all []societyCase) {
	t.Helper()
	for _, x := range all {
		l := with(x.before, of(x.lines)...)
		s := accepted(t, l)
		want := call.Society{Members: x.members, Losses: x.losses, Treaty: s.Treaty, Reserve: s.Reserve}
		if society := societyOf(t, l); fmt.Sprint(society) != fmt.Sprint(want) {
			t.Errorf("%s: Society: %v, not %v", x.name, society, want)
		}
		if text := strings.Join(report(t, l), "; "); text != x.report {
			t.Errorf("%s: Report: %q, not %q", x.name, text, x.report)
		}
		if a, m := ask(t, l), modelOf(l); fmt.Sprint(a) != fmt.Sprint(m) {
			t.Errorf("%s: the calls return %v, not %v", x.name, a, m)
		}
	}
}

func one(sum, class, most int) []call.Member {
	return []call.Member{{Sum: sum, Class: class, Most: most}}
}

// TestPence has the pence of losses.
func TestPence(t *testing.T) {
	plain := of("parcel 0 1000 0 0")
	checkSocieties(t, []societyCase{
		{"no parcels", nil, "hail 0 5 0 100", one(100, 2, 9999), []call.Range{at(0)}, "need 0..0; rate 0; price 20..20; loss 0..0; member 0..0"},
		{"one parcel", plain, "hail 0 5 25 27", one(100, 2, 9999), []call.Range{to(200, 210)}, "need 200..210; rate 105; price 20..20; loss 200..210; member 200..210"},
		{"another owner's", plain, "hail 1 5 25 27", one(100, 2, 9999), []call.Range{at(0)}, "need 0..0; rate 0; price 20..20; loss 0..0; member 0..0"},
		{"the last day of the first week", plain, "hail 0 9 50 50", one(100, 2, 9999), []call.Range{at(400)}, "need 400..400; rate 200; price 20..20; loss 400..400; member 400..400"},
		{"the first day of the second week", plain, "hail 0 10 50 50", one(100, 2, 9999), []call.Range{at(250)}, "need 250..250; rate 125; price 20..20; loss 250..250; member 250..250"},
		{"not sown yet", of("parcel 0 1000 6 7"), "hail 0 5 50 50", one(100, 2, 9999), []call.Range{at(0)}, "need 0..0; rate 0; price 20..20; loss 0..0; member 0..0"},
		{"perhaps sown", of("parcel 0 50 5 6"), "hail 0 5 50 51", one(100, 2, 9999), []call.Range{to(0, 20)}, "need 0..20; rate 10; price 20..20; loss 0..20; member 0..20"},
		{"surely sown", of("parcel 0 50 4 5"), "hail 0 5 50 52", one(100, 2, 9999), []call.Range{to(20, 20)}, "need 20..20; rate 10; price 20..20; loss 20..20; member 20..20"},
		{"perhaps sold", of("parcel 0 50 0 0; sell 0 0 1 5 6"), "hail 0 5 50 50; hail 1 5 50 50; hail 1 6 50 50", one(100, 2, 9999), []call.Range{to(0, 20), to(0, 20), at(20)}, "need 20..60; rate 30; price 20..20; loss 0..20; loss 0..20; loss 20..20; member 20..60"},
		{"the count and the value", of("parcel 0 70 0 0; parcel 0 30 5 6"), "hail 0 5 50 55", one(100, 2, 9999), []call.Range{to(28, 44)}, "need 28..44; rate 22; price 20..20; loss 28..44; member 28..44"},
		{"below the Least", plain, "least 41; hail 0 5 50 50; hail 0 5 51 51; least 40", one(100, 2, 9999), []call.Range{at(400), at(400)}, "need 800..800; rate 400; price 20..20; loss 400..400; loss 400..400; member 800..800"},
		{"not Whole", plain, "hail 0 5 50 50; whole 0", one(100, 2, 9999), []call.Range{at(320)}, "need 320..320; rate 160; price 20..20; loss 320..320; member 320..320"},
		{"rates that do not rise", plain, "rate 0 1 81; hail 0 5 49 51", one(100, 2, 9999), []call.Range{to(790, 810)}, "need 790..810; rate 405; price 20..20; loss 790..810; member 790..810"},
		{"four parcels of the greatest value", times(4, "parcel 2 1000 0 0"), "rate 0 2 100; hail 2 0 100 100; most 0 3999", one(100, 2, 3999), []call.Range{at(4000)}, "need 4000..4000; rate -; price 20..20; loss 4000..4000; member 3999..3999"},
	})
}

// TestSociety has the classes of members, the Treaty and the Reserve, and rates that do not suffice.
func TestSociety(t *testing.T) {
	hail := of("parcel 0 100 0 0; hail 0 0 50 50")
	bad, good := "year 150 150 100 100 9", "year 30 30 100 100 9"
	checkSocieties(t, []societyCase{
		{"a bad year", hail, bad, one(100, 3, 9999), []call.Range{at(40)}, "need 40..40; rate 14; price 40..40; loss 40..40; member 40..40"},
		{"two bad years", hail, bad + "; " + bad, one(100, 4, 9999), []call.Range{at(40)}, "need 40..40; rate 10; price 80..80; loss 40..40; member 40..40"},
		{"three bad years", hail, bad + "; " + bad + "; " + bad, one(100, 4, 9999), []call.Range{at(40)}, "need 40..40; rate 10; price 80..80; loss 40..40; member 40..40"},
		{"a good year", hail, good, one(100, 1, 9999), []call.Range{at(40)}, "need 40..40; rate 40; price 10..10; loss 40..40; member 40..40"},
		{"two good years", hail, good + "; " + good, one(100, 1, 9999), []call.Range{at(40)}, "need 40..40; rate 40; price 10..10; loss 40..40; member 40..40"},
		{"a good year right after a bad one", hail, bad + "; " + good, one(100, 3, 9999), []call.Range{at(40)}, "need 40..40; rate 14; price 40..40; loss 40..40; member 40..40"},
		{"a second good year", hail, bad + "; " + good + "; " + good, one(100, 2, 9999), []call.Range{at(40)}, "need 40..40; rate 20; price 20..20; loss 40..40; member 40..40"},
		{"the ends of good and bad", hail, "year 40 40 100 100 9; year 120 120 100 100 9", one(100, 2, 9999), []call.Range{at(40)}, "need 40..40; rate 20; price 20..20; loss 40..40; member 40..40"},
		{"good or neither", hail, "year 39 40 100 100 5", one(100, 2, 9999), []call.Range{at(40)}, "need 40..40; rate 20; price 10..20; loss 40..40; member 40..40"},
		{"neither or bad", hail, "year 120 121 100 100 5", one(100, 3, 9999), []call.Range{at(40)}, "need 40..40; rate 14; price 20..40; loss 40..40; member 40..40"},
		{"too few parcels", hail, "year 500 500 100 100 4", one(100, 2, 9999), []call.Range{at(40)}, "need 40..40; rate 20; price 20..20; loss 40..40; member 40..40"},
		{"an exempt year", hail, bad + "; exempt 0 1", one(100, 2, 9999), []call.Range{at(40)}, "need 40..40; rate 20; price 20..20; loss 40..40; member 40..40"},
		{"the Treaty", hail, "treaty 5 9", one(100, 2, 9999), []call.Range{at(40)}, "need 31..35; rate 18; price 20..20; loss 40..40; member 31..35"},
		{"the Reserve", hail, "reserve 39", one(100, 2, 9999), []call.Range{at(40)}, "need 1..1; rate 1; price 20..20; loss 40..40; member 1..1"},
		{"both are enough", hail, "reserve 39; treaty 0 9", one(100, 2, 9999), []call.Range{at(40)}, "need 0..1; rate 1; price 20..20; loss 40..40; member 0..1"},
		{"the Most is enough", hail, "most 0 40", one(100, 2, 40), []call.Range{at(40)}, "need 40..40; rate 20; price 20..20; loss 40..40; member 40..40"},
		{"the Most is not enough", hail, "most 0 39", one(100, 2, 39), []call.Range{at(40)}, "need 40..40; rate -; price 20..20; loss 40..40; member 39..39"},
		{"another member", hail, "member 1 9; leave 0; " + good, one(1, 1, 9), []call.Range{at(40)}, "need 40..40; rate -; price 10..10; loss 40..40; member 9..9"},
		{"three members", hail, "most 0 15; member 50 100; member 49 5", []call.Member{{Sum: 100, Class: 2, Most: 15}, {Sum: 50, Class: 2, Most: 100}, {Sum: 49, Class: 2, Most: 5}}, []call.Range{at(40)}, "need 40..40; rate 20; price 20..20; loss 40..40; member 15..15; member 20..20; member 5..5"},
	})
}

// TestCalls has P12.2: Calls are the bounds of package call.
func TestCalls(t *testing.T) {
	for _, l := range append(sessions(21, 60, 30), nil, chapter(), full()) {
		calls, e := book.Calls(l)
		bounds, f := call.Bounds(societyOf(t, l))
		if !slices.Equal(calls, bounds) || e != api.OK || f != api.OK {
			t.Fatalf("Calls of %q: %v, %v, not %v, %v", l, calls, e, bounds, f)
		}
	}
}

// TestWrite has records and their checks.
func TestWrite(t *testing.T) {
	for _, x := range []struct {
		l    []string
		want string
	}{
		{nil, ""},
		{[]string{""}, "0041:00:\n"},
		{[]string{"", ""}, "0041:00:\n0082:00:\n"},
		{[]string{"a"}, "0332:01:a\n"},
		{[]string{"", "a"}, "0041:00:\n0373:01:a\n"},
		{[]string{"ab"}, "0724:02:ab\n"},
		{[]string{"ba"}, "0723:02:ba\n"},
		{[]string{"\n"}, "0071:01:\n\n"},
		{[]string{":"}, "0215:01::\n"},
		{[]string{"0041:00:"}, "2733:08:0041:00:\n"},
		{[]string{"\x00"}, "0041:01:\x00\n"},
		{[]string{"\xff"}, "0806:01:\xff\n"},
		{[]string{"é"}, "1302:02:é\n"},
		{[]string{"undo"}, "1998:04:undo\n"},
		{[]string{strings.Repeat(" ", 60)}, "2747:60:" + strings.Repeat(" ", 60) + "\n"},
		{[]string{strings.Repeat("\x01", 59) + "\x00"}, "1929:60:" + strings.Repeat("\x01", 59) + "\x00\n"},
	} {
		if file, e := book.Write(x.l); string(file) != x.want || e != api.OK {
			t.Errorf("Write of %q: %q, %v, not %q", x.l, file, e, x.want)
		}
		if model := fileOf(x.l); string(model) != x.want {
			t.Errorf("the model of Write of %q: %q", x.l, model)
		}
		if l, n := book.Recover([]byte(x.want)); fmt.Sprintf("%q", l) != fmt.Sprintf("%q", append([]string{}, x.l...)) || n != len(x.want) {
			t.Errorf("Recover of %q: %q, %d", x.want, l, n)
		}
	}
	many := times(40, strings.Repeat("\xfe", 60))
	if file := write(t, many); string(file) != string(fileOf(many)) || len(file) != 40*69 {
		t.Errorf("Write of many: %q", file)
	}
	if file := write(t, times(40, "")); !strings.HasSuffix(string(file), "\n1599:00:\n1640:00:\n") {
		t.Errorf("Write of empty lines: %q", file)
	}
}

// TestChecks has checks around the modulo, and those with zeros in front.
func TestChecks(t *testing.T) {
	seen := map[string]bool{}
	for sum := 9949 - 60; sum < 9949+120; sum++ {
		// The byte with the index 57 counts 60 times, and the one with the index 0 three times.
		line := []byte(strings.Repeat("\x00", 58))
		rest := sum - 41
		for k := 57; k >= 0; k-- {
			line[k] = byte(min(rest/(k+3), 255))
			rest -= (k + 3) * int(line[k])
		}
		want := recordOf(0, string(line))
		if file := write(t, []string{string(line)}); string(file) != want {
			t.Errorf("Write of %q: %q, not %q", line, file, want)
		}
		if l, n := book.Recover([]byte(want)); len(l) != 1 || n != len(want) {
			t.Errorf("Recover of %q: %q, %d", want, l, n)
		}
		seen[want[:4]] = true
	}
	for _, check := range of("9948; 0000; 0001; 0009; 0010; 0099; 0100") {
		if !seen[check] {
			t.Errorf("no check is %s", check)
		}
	}
}

// readCase is what can be read of bytes: so many lines, and so many bytes.
type readCase struct {
	name         string
	b            string
	lines, bytes int
}

// TestRecover has bytes that are no file.
func TestRecover(t *testing.T) {
	a, b := recordOf(0, "a"), recordOf(1, "b")
	long := strings.Repeat("x", 61)
	longRecord := fmt.Sprintf("%04d:61:%s\n", (41+2013*120)%9949, long)
	if check := recordOf(0, long); check != longRecord {
		t.Fatalf("the record %q is not %q", longRecord, check)
	}
	for _, x := range []readCase{
		{"nothing", "", 0, 0},
		{"a record", a, 1, 10},
		{"two records", a + b, 2, 20},
		{"three records", a + b + recordOf(2, ""), 3, 29},
		{"something behind", a + b + "x", 2, 20},
		{"a line feed behind", a + b + "\n", 2, 20},
		{"a head behind", a + b + "0123:00:", 2, 20},
		{"something before", "x" + a, 0, 0},
		{"a line feed before", "\n" + a, 0, 0},
		{"a line feed between", a + "\n" + b, 1, 10},
		{"no line feed", a[:9], 0, 0},
		{"another end", a[:9] + "\r\n", 0, 0},
		{"a zero as the end", a[:9] + "\x00", 0, 0},
		{"the second one at first", b + a, 0, 0},
		{"the first one again", a + a, 1, 10},
		{"the second one again", a + b + b, 2, 20},
		{"one is missing", a + recordOf(2, "c"), 1, 10},
		{"a wrong check", "0333:01:a\n", 0, 0},
		{"another line", "0332:01:b\n", 0, 0},
		{"a check without its zero", "332:01:a\n", 0, 0},
		{"a check with a zero more", "00332:01:a\n", 0, 0},
		{"a check with a blank", " 332:01:a\n", 0, 0},
		{"a check with a plus", "+332:01:a\n", 0, 0},
		{"a check that is greater by the modulo", fmt.Sprintf("%04d:00:\n", 41+9949), 0, 0},
		{"a length without its zero", "0332:1:a\n", 0, 0},
		{"a length with a zero more", "0332:001:a\n", 0, 0},
		{"a length with a blank", "0332: 1:a\n", 0, 0},
		{"a length with a plus", "0332:+1:a\n", 0, 0},
		{"a length with a minus", "0041:-0:\n", 0, 0},
		{"a length below 0", "0041:-1:\n", 0, 0},
		{"a length far below 0", "0041:-9:\n0041:00:\n", 0, 0},
		{"a length of letters", "0332:0a:a\n", 0, 0},
		{"a length that is too small", "0332:00:a\n", 0, 0},
		{"a length that is too great", "0332:02:a\n", 0, 0},
		{"a length far too great", "0332:60:a\n", 0, 0},
		{"no first colon", "0332;01:a\n", 0, 0},
		{"no second colon", "0332:01;a\n", 0, 0},
		{"blanks for colons", "0332 01 a\n", 0, 0},
		{"the longest line", recordOf(0, long[:60]), 1, 69},
		{"a line that is too long", longRecord, 0, 0},
		{"a line that is too long behind", a + recordOf(1, long), 1, 10},
		{"forty lines", string(fileOf(times(40, "x"))), 40, 400},
		{"forty-one lines", string(fileOf(times(41, "x"))), 40, 400},
		{"very many lines", string(fileOf(times(900, "x"))), 40, 400},
		{"forty lines, and one that is damaged", string(fileOf(times(40, ""))) + "x", 40, 360},
		{"lines that would be refused", string(fileOf([]string{"x", "", "leave 9", "\n"})), 4, 45},
		{"a line that is a record", recordOf(0, recordOf(0, "")), 1, 18},
	} {
		l, n := book.Recover([]byte(x.b))
		if len(l) != x.lines || n != x.bytes || string(fileOf(l)) != x.b[:min(n, len(x.b))] {
			t.Errorf("%s: Recover of %q: %q, %d, not %d, %d", x.name, x.b, l, n, x.lines, x.bytes)
		}
		if model, m := readOf([]byte(x.b)); !slices.Equal(l, model) || n != m {
			t.Errorf("%s: the model has %q, %d", x.name, model, m)
		}
	}
	if l, n := book.Recover(nil); len(l) != 0 || n != 0 {
		t.Errorf("Recover of nothing: %q, %d", l, n)
	}
}

// TestDamaged changes each byte of a file to each other one.
func TestDamaged(t *testing.T) {
	l := []string{"parcel 0 100 2 3", "undo", "", "reserve 10"}
	file := write(t, l)
	for at, was := range file {
		damaged := slices.Clone(file)
		for n := range 256 {
			damaged[at] = byte(n)
			lines, bytes := book.Recover(damaged)
			model, m := readOf(damaged)
			if !slices.Equal(lines, model) || bytes != m {
				t.Fatalf("Recover of %q: %q, %d, not %q, %d", damaged, lines, bytes, model, m)
			}
			if byte(n) != was && len(lines) == len(l) {
				t.Fatalf("Recover of %q: all of %q", damaged, lines)
			}
		}
	}
}

// TestResume has P12.5.
func TestResume(t *testing.T) {
	for _, x := range []struct {
		name       string
		read, more []string
		rest       string
		want       []string
	}{
		{"nothing", nil, nil, "", nil},
		{"nothing that can be read", nil, nil, "xyz", nil},
		{"no more", of("reserve 5"), nil, "", of("reserve 5")},
		{"refused lines stay", of("x; reserve 5; leave 7"), nil, "", of("x; reserve 5; leave 7")},
		{"refused ones of the session do not", of("x; reserve 5; leave 7"), of("y; reserve 6; leave 8"), "", of("x; reserve 5; leave 7; reserve 6")},
		{"what cannot be read is left out", of("reserve 5"), of("reserve 6"), "0083:00:\nx", of("reserve 5; reserve 6")},
		{"the state goes on", of("parcel 0 9 0 0"), of("harvest 0 1 1; harvest 0 2 2; parcel 0 9 0 0"), "", of("parcel 0 9 0 0; harvest 0 1 1")},
		{"a refused line changes nothing", of("parcel 5 9 0 0"), of("harvest 0 1 1; parcel 0 9 0 0; harvest 0 1 1"), "", of("parcel 5 9 0 0; parcel 0 9 0 0; harvest 0 1 1")},
		{"only by the lines that are lost", nil, of("harvest 0 1 1"), recordOf(1, "parcel 0 9 0 0"), nil},
		{"all of the chapter", nil, chapter(), "", chapter()},
		{"half of the chapter", chapter()[:6], chapter()[6:], "", chapter()},
		{"again", chapter(), chapter(), "", with(chapter(), of("split 0 30 5 5; swap 2 1 6 7; hail 0 5 20 25; member 50 30; treaty 2 5; reserve 10; year 50 50 100 102 9; year 130 131 108 109 9")...)},
		{"limits count what was read", full(), of("hail 0 0 0 0; leave 1; member 1 1"), "", with(full(), "leave 1", "member 1 1")},
	} {
		b := append(fileOf(x.read), x.rest...)
		if file := resume(t, b, x.more); string(file) != string(fileOf(x.want)) {
			t.Errorf("%s: Resume: %q, not %q", x.name, file, fileOf(x.want))
		}
		if model := resumeOf(b, x.more); string(model) != string(fileOf(x.want)) {
			t.Errorf("%s: the model has %q", x.name, model)
		}
	}
}

// TestMemory checks R4: arguments stay as they were, results can be written to, and equal calls return equal results.
func TestMemory(t *testing.T) {
	for _, l := range append(sessions(22, 25, 40), chapter(), full()) {
		if len(l) == 40 {
			l = l[:39] // Resume has room for one more
		}
		room := append(append(make([]string, 0, len(l)+2), l...), "behind", "behind")
		arguments := room[:len(l)]
		before := everything(arguments)
		s, errors, _ := book.Play(arguments)
		writeToState(t, s)
		writeTo(errors)
		society, _ := book.Society(arguments)
		writeTo(society.Members)
		writeTo(society.Losses)
		calls, _ := book.Calls(arguments)
		writeTo(calls)
		file, _ := book.Write(arguments)
		kept := append(slices.Clone(file), "behind"...)
		b := kept[:len(file)]
		writeTo(file)
		lines, _ := book.Recover(b)
		_ = append(lines, "more")
		writeTo(lines)
		lines, _ = book.Recover(b)
		file, _ = book.Resume(b, arguments[:1])
		writeTo(file)
		if string(kept) != string(fileOf(l))+"behind" || everything(arguments) != before || !slices.Equal(room, append(slices.Clone(l), "behind", "behind")) {
			t.Fatalf("written to: %q", l)
		}
		writeTo(b)
		if !slices.Equal(lines, l) {
			t.Fatalf("lines that were read share the memory of the bytes: %q", lines)
		}
	}
}

// writeTo writes over the elements of the list, and behind them.
func writeTo[T any](l []T) {
	var zero T
	for k := range l {
		l[k] = zero
	}
	_ = append(l, zero)
}

// writeToState writes to one list of the state after the other, which must not change the others.
func writeToState(t *testing.T, s book.State) {
	t.Helper()
	text := func() []string {
		rates := s.Tariff.Rates[0]
		return []string{fmt.Sprint(s.Book.Parcels), fmt.Sprint(s.Book.Entries), fmt.Sprint(s.Tariff.Weeks), fmt.Sprint(s.Tariff.Counts), fmt.Sprint(rates[0]), fmt.Sprint(rates[1]), fmt.Sprint(s.Losses), fmt.Sprint(s.Members), fmt.Sprint(s.Zone.Years)}
	}
	grow := func(l []int) { _ = append(append(l, 77), 77) }
	for i, write := range []func(){
		func() { writeTo(s.Book.Parcels) }, func() { writeTo(s.Book.Entries) },
		func() { writeTo(s.Tariff.Weeks); grow(s.Tariff.Weeks) }, func() { writeTo(s.Tariff.Counts); grow(s.Tariff.Counts) },
		func() { writeTo(s.Tariff.Rates[0][0]); grow(s.Tariff.Rates[0][0]) }, func() { writeTo(s.Tariff.Rates[0][1]) },
		func() { writeTo(s.Losses) }, func() { writeTo(s.Members) }, func() { writeTo(s.Zone.Years) },
	} {
		before := text()
		write()
		for k, now := range text() {
			if k != i && now != before[k] {
				t.Fatalf("the lists %d and %d of %v share memory", i, k, s)
			}
		}
	}
}

// TestAnything has P1: lines and bytes of any sort.
func TestAnything(t *testing.T) {
	r := rand.New(rand.NewPCG(23, 23))
	text := func(most int, letters string) string {
		var b strings.Builder
		for range r.IntN(most + 1) {
			b.WriteByte(letters[r.IntN(len(letters))])
		}
		return b.String()
	}
	all := make([]byte, 256)
	for n := range all {
		all[n] = byte(n)
	}
	for range 2000 {
		var l []string
		for range r.IntN(6) {
			line := someLine(r)
			switch r.IntN(3) {
			case 0:
				line = text(62, string(all))
			case 1:
				at := r.IntN(len(line) + 1)
				line = line[:at] + text(3, "0123456789 -+_:\n") + line[min(len(line), at+r.IntN(2)):]
			}
			l = append(l, line)
		}
		want := api.OK
		if slices.ContainsFunc(l, func(line string) bool { return len(line) > 60 }) {
			want = api.ErrLimit
		}
		limitsOf(t, l, want)
		if want == api.OK {
			if a, m := ask(t, l), modelOf(l); fmt.Sprint(a) != fmt.Sprint(m) {
				t.Fatalf("the calls return %v of %q, not %v", a, l, m)
			}
		}
		b := []byte(text(40, "0123:\n"))
		if r.IntN(2) == 0 {
			b = bytes.Replace(fileOf(l), []byte(text(1, "0123456789: \n")), b[:min(len(b), 2)], 1+r.IntN(3))
		}
		lines, n := book.Recover(b)
		if model, m := readOf(b); !slices.Equal(lines, model) || n != m {
			t.Fatalf("Recover of %q: %q, %d, not %q, %d", b, lines, n, model, m)
		}
	}
}
