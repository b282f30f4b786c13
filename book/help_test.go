package book_test

import (
	"fmt"
	"math/rand/v2"
	"regexp"
	"slices"
	"strconv"
	"strings"
	"testing"

	"hailstone/api"
	"hailstone/book"
	"hailstone/call"
	"hailstone/parcel"
	"hailstone/tariff"
	"hailstone/zone"
)

// of splits a text into lines.
func of(text string) []string {
	if text == "" {
		return nil
	}
	return strings.Split(text, "; ")
}

// with is the lines, and then more lines.
func with(l []string, more ...string) []string { return slices.Concat(l, more) }

func times(n int, line string) []string { return slices.Repeat([]string{line}, n) }

func to(low, high int) call.Range { return call.Range{Lo: low, Hi: high} }

func at(n int) call.Range { return to(n, n) }

// chapter has the lines of the chapter's examples.
func chapter() []string {
	return of("parcel 0 100 2 3; parcel 1 60 0 0; sell 0 0 2 4 6; split 0 30 5 5; swap 2 1 6 7; harvest 1 8 8; hail 0 5 20 25; hail 2 9 50 50; member 50 30; treaty 2 5; reserve 10; year 50 50 100 102 9; year 130 131 108 109 9")
}

// full has as much of everything as there may be, in 23 lines.
func full() []string {
	return of("parcel 0 100 0 1; parcel 1 60 0 0; parcel 2 70 3 3; parcel 3 80 0 0; sell 0 0 1 4 5; split 1 10 6 6; swap 1 2 7 8; sell 4 1 3 9 9; harvest 3 10 10; harvest 4 11 12; hail 0 2 50 50; hail 1 5 10 10; hail 3 12 30 31; member 200 9; member 30 100; member 50 2; member 1 1; year 50 50 100 100 9; year 150 150 100 100 9; year 30 31 100 101 9; year 130 130 108 109 9; year 10 10 100 100 4; year 40 40 100 101 5")
}

// play asks the package, whose answer must have no error.
func play(t *testing.T, l []string) (book.State, []api.Errno) {
	t.Helper()
	s, errors, e := book.Play(l)
	if e != api.OK || len(errors) != len(l) {
		t.Fatalf("Play of %q: %v, %v", l, errors, e)
	}
	return s, errors
}

// accepted plays lines all of which must be accepted.
func accepted(t *testing.T, l []string) book.State {
	t.Helper()
	s, errors := play(t, l)
	for i, e := range errors {
		if e != api.OK {
			t.Fatalf("the line %q of %q: %v", l[i], l, e)
		}
	}
	return s
}

// last plays the lines, and returns the error of the last one too.
func last(t *testing.T, l []string) (book.State, api.Errno) {
	t.Helper()
	s, errors := play(t, l)
	return s, errors[len(l)-1]
}

// same reports whether the states are the same; nil and empty lists are.
func same(a, b book.State) bool { return fmt.Sprint(a) == fmt.Sprint(b) }

func societyOf(t *testing.T, l []string) call.Society {
	t.Helper()
	society, e := book.Society(l)
	if e != api.OK {
		t.Fatalf("Society of %q: %v", l, e)
	}
	return society
}

// report is the lines of the package's report.
func report(t *testing.T, l []string) []string {
	t.Helper()
	text, e := book.Report(l)
	if e != api.OK || !strings.HasSuffix(text, "\n") {
		t.Fatalf("Report of %q: %q, %v", l, text, e)
	}
	return strings.Split(strings.TrimSuffix(text, "\n"), "\n")
}

func write(t *testing.T, l []string) []byte {
	t.Helper()
	b, e := book.Write(l)
	if e != api.OK {
		t.Fatalf("Write of %q: %v", l, e)
	}
	return b
}

func resume(t *testing.T, b []byte, more []string) []byte {
	t.Helper()
	file, e := book.Resume(b, more)
	if e != api.OK {
		t.Fatalf("Resume of %q, %q: %v", b, more, e)
	}
	return file
}

// everything is what all calls of a session return, as a text.
func everything(l []string) string {
	s, errors, e := book.Play(l)
	text := fmt.Sprintln(s, errors, e)
	society, e := book.Society(l)
	text += fmt.Sprintln(society, e)
	calls, e := book.Calls(l)
	text += fmt.Sprintln(calls, e)
	report, e := book.Report(l)
	text += fmt.Sprintln(report, e)
	file, e := book.Write(l)
	text += fmt.Sprintln(file, e)
	lines, n := book.Recover(file)
	text += fmt.Sprintf("%q %d\n", lines, n)
	file, e = book.Resume(file, l)
	return text + fmt.Sprintln(file, e)
}

// numbers are those of a line, by the letters that the chapter's table has for them.
type numbers map[string]int

func (n numbers) noRange(a, b string, wide int) bool { return n[a] > n[b] || n[b]-n[a] > wide }

func (n numbers) noDays() bool { return n.noRange("a", "b", 30) || n["b"] > 30 }

func (n numbers) noCount() bool { return n.noRange("a", "b", 100) || n["b"] > 100 }

func (n numbers) days() parcel.Range { return parcel.Range{Lo: n["a"], Hi: n["b"]} }

func (n numbers) count() tariff.Range { return tariff.Range{Lo: n["a"], Hi: n["b"]} }

// clause is an error of a line, and when it is one.
type clause struct {
	e     api.Errno
	holds func(s book.State, n numbers) bool
}

// row is one of the chapter's table of lines.
type row struct {
	letters string
	do      func(s *book.State, n numbers)
	clauses []clause
}

// parcelsOf is how many numbers of parcels there are.
func parcelsOf(s book.State) int {
	number := len(s.Book.Parcels)
	for _, e := range s.Book.Entries {
		if e.Kind == parcel.Split {
			number++
		}
	}
	return number
}

// entryRow is that of a line that makes an entry, by its own ErrRange but for that of the days.
func entryRow(letters string, wrong func(n numbers) bool, entry func(n numbers) parcel.Entry) row {
	return row{letters, func(s *book.State, n numbers) { s.Book.Entries = append(s.Book.Entries, entry(n)) }, []clause{
		{api.ErrRange, func(s book.State, n numbers) bool { return wrong(n) || n.noDays() }},
		{api.ErrNone, func(s book.State, n numbers) bool { return n["P"] >= parcelsOf(s) || n["Q"] >= parcelsOf(s) }},
		{api.ErrLimit, func(s book.State, n numbers) bool { return len(s.Book.Entries) == 6 }},
	}}
}

func drop[T any](l []T, k int) []T { return slices.Concat(l[:k], l[k+1:]) }

func bookRows() map[string]row {
	noEntry := clause{api.ErrNone, func(s book.State, n numbers) bool { return n["K"] >= len(s.Book.Entries) }}
	noDays := clause{api.ErrRange, func(s book.State, n numbers) bool { return n.noDays() }}
	return map[string]row{
		"parcel": {"OVab", func(s *book.State, n numbers) {
			s.Book.Parcels = append(s.Book.Parcels, parcel.Parcel{Owner: n["O"], Value: n["V"], Sown: n.days()})
		}, []clause{
			{api.ErrRange, func(s book.State, n numbers) bool { return n["O"] > 3 || n["V"] > 1000 || n.noDays() }},
			{api.ErrState, func(s book.State, n numbers) bool { return len(s.Book.Entries) > 0 }},
			{api.ErrLimit, func(s book.State, n numbers) bool { return len(s.Book.Parcels) == 4 }},
		}},
		"sell": entryRow("PFTab", func(n numbers) bool { return n["F"] > 3 || n["T"] > 3 || n["F"] == n["T"] }, func(n numbers) parcel.Entry {
			return parcel.Entry{Kind: 0, Parcel: n["P"], From: n["F"], To: n["T"], Day: n.days()}
		}),
		"split": entryRow("PXab", func(n numbers) bool { return n["X"] == 0 || n["X"] > 1000 }, func(n numbers) parcel.Entry {
			return parcel.Entry{Kind: 1, Parcel: n["P"], Part: n["X"], Day: n.days()}
		}),
		"swap": entryRow("PQab", func(n numbers) bool { return n["P"] == n["Q"] }, func(n numbers) parcel.Entry {
			return parcel.Entry{Kind: 2, Parcel: n["P"], Other: n["Q"], Day: n.days()}
		}),
		"harvest": entryRow("Pab", func(n numbers) bool { return false }, func(n numbers) parcel.Entry {
			return parcel.Entry{Kind: 3, Parcel: n["P"], Day: n.days()}
		}),
		"strike": {"K", func(s *book.State, n numbers) { s.Book.Entries = drop(s.Book.Entries, n["K"]) }, []clause{
			noEntry, {api.ErrState, func(s book.State, n numbers) bool { return s.Book.Entries[n["K"]].Kind == 1 }},
		}},
		"days": {"Kab", func(s *book.State, n numbers) { s.Book.Entries[n["K"]].Day = n.days() }, []clause{noEntry, noDays}},
		"sown": {"Kab", func(s *book.State, n numbers) { s.Book.Parcels[n["K"]].Sown = n.days() }, []clause{
			{api.ErrNone, func(s book.State, n numbers) bool { return n["K"] >= len(s.Book.Parcels) }}, noDays,
		}},
	}
}

func lossRows() map[string]row {
	noLoss := clause{api.ErrNone, func(s book.State, n numbers) bool { return n["K"] >= len(s.Losses) }}
	hundredth := func(letter string) clause {
		return clause{api.ErrRange, func(s book.State, n numbers) bool { return n[letter] > 100 }}
	}
	return map[string]row{
		"least": {"N", func(s *book.State, n numbers) { s.Tariff.Least = n["N"] }, []clause{hundredth("N")}},
		"whole": {"B", func(s *book.State, n numbers) { s.Tariff.Whole = n["B"] == 1 }, []clause{
			{api.ErrRange, func(s book.State, n numbers) bool { return n["B"] > 1 }},
		}},
		"rate": {"WKR", func(s *book.State, n numbers) { s.Tariff.Rates[0][n["W"]][n["K"]] = n["R"] }, []clause{
			{api.ErrNone, func(s book.State, n numbers) bool { return n["W"] > 1 || n["K"] > 2 }}, hundredth("R"),
		}},
		"hail": {"ODab", func(s *book.State, n numbers) {
			s.Losses = append(s.Losses, book.Loss{Owner: n["O"], Day: n["D"], Count: n.count()})
		}, []clause{
			{api.ErrRange, func(s book.State, n numbers) bool { return n["O"] > 3 || n["D"] > 30 || n.noCount() }},
			{api.ErrLimit, func(s book.State, n numbers) bool { return len(s.Losses) == 3 }},
		}},
		"count": {"Kab", func(s *book.State, n numbers) { s.Losses[n["K"]].Count = n.count() }, []clause{
			noLoss, {api.ErrRange, func(s book.State, n numbers) bool { return n.noCount() }},
		}},
		"drop": {"K", func(s *book.State, n numbers) { s.Losses = drop(s.Losses, n["K"]) }, []clause{noLoss}},
	}
}

func memberRows() map[string]row {
	noMember := clause{api.ErrNone, func(s book.State, n numbers) bool { return n["K"] >= len(s.Members) }}
	return map[string]row{
		"member": {"SM", func(s *book.State, n numbers) { s.Members = append(s.Members, book.Member{Sum: n["S"], Most: n["M"]}) }, []clause{
			{api.ErrRange, func(s book.State, n numbers) bool { return n["S"] == 0 || n["S"] > 1000 }},
			{api.ErrLimit, func(s book.State, n numbers) bool { return len(s.Members) == 5 }},
		}},
		"most": {"KM", func(s *book.State, n numbers) { s.Members[n["K"]].Most = n["M"] }, []clause{noMember}},
		"leave": {"K", func(s *book.State, n numbers) { s.Members = drop(s.Members, n["K"]) }, []clause{
			noMember, {api.ErrState, func(s book.State, n numbers) bool { return len(s.Members) == 1 }},
		}},
		"treaty": {"ab", func(s *book.State, n numbers) { s.Treaty = to(n["a"], n["b"]) }, []clause{
			{api.ErrRange, func(s book.State, n numbers) bool { return n.noRange("a", "b", 30) }},
		}},
		"reserve": {"N", func(s *book.State, n numbers) { s.Reserve = n["N"] }, nil},
	}
}

func yearRows() map[string]row {
	return map[string]row{
		"year": {"abcdn", func(s *book.State, n numbers) {
			year := zone.Year{Losses: zone.Range{Lo: n["a"], Hi: n["b"]}, Premiums: zone.Range{Lo: n["c"], Hi: n["d"]}, Parcels: n["n"]}
			s.Zone.Years = append(s.Zone.Years, year)
		}, []clause{
			{api.ErrRange, func(s book.State, n numbers) bool {
				return n.noRange("a", "b", 5) || n.noRange("c", "d", 5) || n["n"] > 100
			}},
			{api.ErrLimit, func(s book.State, n numbers) bool { return len(s.Zone.Years) == 6 }},
		}},
		"exempt": {"KB", func(s *book.State, n numbers) { s.Zone.Years[n["K"]].Exempt = n["B"] == 1 }, []clause{
			{api.ErrNone, func(s book.State, n numbers) bool { return n["K"] >= len(s.Zone.Years) }},
			{api.ErrRange, func(s book.State, n numbers) bool { return n["B"] > 1 }},
		}},
		"undo": {"", func(s *book.State, n numbers) { s.Zone.Years = s.Zone.Years[:len(s.Zone.Years)-1] }, []clause{
			{api.ErrNone, func(s book.State, n numbers) bool { return len(s.Zone.Years) == 0 }},
		}},
	}
}

func rowOf(word string) (row, bool) {
	for _, rows := range []map[string]row{bookRows(), lossRows(), memberRows(), yearRows()} {
		if r, is := rows[word]; is {
			return r, true
		}
	}
	return row{}, false
}

// first is the state at first.
func first() book.State {
	return book.State{
		Book: parcel.Book{Last: 30, Owners: 4},
		Tariff: tariff.Tariff{
			From: 0, Whole: true, Least: 8, Weeks: []int{0, 10}, Counts: []int{0, 50, 100},
			Rates: [][][]int{{{0, 40, 80}, {0, 25, 100}}},
		},
		Members: []book.Member{{Sum: 100, Most: 9999}},
		Zone:    zone.Zone{First: 1},
	}
}

func zoneRule() zone.Rule {
	return zone.Rule{Classes: 4, Good: 40, Bad: 120, Rest: 1, Fewest: 5, Price: []int{10, 20, 40, 80}}
}

func clone(s book.State) book.State {
	s.Book.Parcels = slices.Clone(s.Book.Parcels)
	s.Book.Entries = slices.Clone(s.Book.Entries)
	s.Tariff.Rates = [][][]int{{slices.Clone(s.Tariff.Rates[0][0]), slices.Clone(s.Tariff.Rates[0][1])}}
	s.Losses = slices.Clone(s.Losses)
	s.Members = slices.Clone(s.Members)
	s.Zone.Years = slices.Clone(s.Zone.Years)
	return s
}

var shape = regexp.MustCompile(`^[a-z]+( (0|[1-9][0-9]{0,3}))*$`)

// step is the model of a line: the state after it, and its error.
func step(s book.State, line string) (book.State, api.Errno) {
	parts := strings.Fields(line)
	if !shape.MatchString(line) {
		return s, api.ErrForm
	}
	r, known := rowOf(parts[0])
	if !known || len(r.letters) != len(parts)-1 {
		return s, api.ErrForm
	}
	n := numbers{}
	for i, letter := range r.letters {
		n[string(letter)], _ = strconv.Atoi(parts[1+i])
	}
	for _, c := range r.clauses {
		if c.holds(s, n) {
			return s, c.e
		}
	}
	after := clone(s)
	r.do(&after, n)
	if e := stands(after); e != api.OK {
		return s, e
	}
	return after, api.OK
}

// steps is the model of Play, from any state.
func steps(s book.State, l []string) (book.State, []api.Errno) {
	var errors []api.Errno
	for _, line := range l {
		after, e := step(s, line)
		s, errors = after, append(errors, e)
	}
	return s, errors
}

func sizesOf(b parcel.Book) []parcel.Range {
	var l []parcel.Range
	for _, e := range b.Entries {
		l = append(l, e.Day)
	}
	for _, p := range b.Parcels {
		l = append(l, p.Sown)
	}
	return l
}

func numberOf(b parcel.Book) int {
	number := 1
	for _, r := range sizesOf(b) {
		number *= r.Hi - r.Lo + 1
	}
	return number
}

// truths are all truths of the book. They are counted like the digits of a number.
func truths(b parcel.Book) []parcel.Truth {
	var all []parcel.Truth
	for code := range numberOf(b) {
		var days []int
		for _, r := range sizesOf(b) {
			size := r.Hi - r.Lo + 1
			days = append(days, r.Lo+code%size)
			code /= size
		}
		n := len(b.Entries)
		if truth := (parcel.Truth{Days: days[:n:n], Sown: days[n:]}); parcel.ProveTruth(b, truth) {
			all = append(all, truth)
		}
	}
	return all
}

// stands is the error of a state that does not stand.
func stands(s book.State) api.Errno {
	if numberOf(s.Book) > 1000 {
		return api.ErrLimit
	}
	all := truths(s.Book)
	if len(all) == 0 {
		return api.ErrFail
	}
	for _, l := range s.Losses {
		if r := penceOf(s, all, l); r.Hi-r.Lo > 30 {
			return api.ErrShort
		}
	}
	return api.OK
}

// penceOf tries all truths for what the loss's owner has, and then all counts.
func penceOf(s book.State, all []parcel.Truth, l book.Loss) call.Range {
	low, high := 0, 0
	for i, truth := range all {
		held, _ := parcel.Play(s.Book, truth, l.Day)
		worth := 0
		for _, h := range held {
			if h.Covered && h.Owner == l.Owner {
				worth += h.Value
			}
		}
		if i == 0 {
			low, high = worth, worth
		}
		low, high = min(low, worth), max(high, worth)
	}
	var parts []int
	for count := l.Count.Lo; count <= l.Count.Hi; count++ {
		part, _ := tariff.Part([]tariff.Tariff{s.Tariff}, 0, l.Day, count)
		parts = append(parts, part)
	}
	return to(low*slices.Min(parts)/100, high*slices.Max(parts)/100)
}

// kindsOf says whether a year can be good, neither, or bad; nothing, if it does not count.
func kindsOf(y zone.Year) map[int]bool {
	kinds := map[int]bool{}
	if y.Exempt || y.Parcels < 5 {
		return kinds
	}
	for losses := y.Losses.Lo; losses <= y.Losses.Hi; losses++ {
		for premiums := y.Premiums.Lo; premiums <= y.Premiums.Hi; premiums++ {
			switch {
			case losses*100 < premiums*40:
				kinds[-1] = true
			case losses*100 > premiums*120:
				kinds[1] = true
			default:
				kinds[0] = true
			}
		}
	}
	return kinds
}

// classesOf are the classes that the zone can have after all years, from a class, and after a bad year or not.
func classesOf(years []zone.Year, class int, bad bool) []int {
	if len(years) == 0 {
		return []int{class}
	}
	kinds := kindsOf(years[0])
	if len(kinds) == 0 {
		return classesOf(years[1:], class, bad)
	}
	var all []int
	for kind := range kinds {
		next := class + kind
		if kind < 0 && bad {
			next = class
		}
		all = append(all, classesOf(years[1:], min(max(next, 0), 3), kind > 0)...)
	}
	return all
}

// answers are what the calls return of a session.
type answers struct {
	state   book.State
	errors  []api.Errno
	society call.Society
	calls   []call.Range
	report  string
	file    []byte
}

// ask makes all calls of a session.
func ask(t *testing.T, l []string) answers {
	t.Helper()
	var a answers
	a.state, a.errors = play(t, l)
	a.society = societyOf(t, l)
	calls, e := book.Calls(l)
	if e != api.OK {
		t.Fatalf("Calls of %q: %v", l, e)
	}
	a.calls = calls
	a.report = strings.Join(report(t, l), "\n") + "\n"
	a.file = write(t, l)
	return a
}

// modelOf is what the calls have to return.
func modelOf(l []string) answers {
	var a answers
	a.state, a.errors = steps(first(), l)
	s := a.state
	classes := classesOf(s.Zone.Years, s.Zone.First, false)
	a.society = call.Society{Treaty: s.Treaty, Reserve: s.Reserve}
	for _, m := range s.Members {
		a.society.Members = append(a.society.Members, call.Member{Sum: m.Sum, Class: 1 + slices.Max(classes), Most: m.Most})
	}
	for _, loss := range s.Losses {
		a.society.Losses = append(a.society.Losses, penceOf(s, truths(s.Book), loss))
	}
	a.calls, _ = call.Bounds(a.society)
	needs, _ := call.Needs(a.society)
	rate := "-"
	if n, e := call.Rate(a.society); e == api.OK {
		rate = fmt.Sprint(n)
	}
	prices := zoneRule().Price
	a.report = fmt.Sprintf("need %d..%d\nrate %s\nprice %d..%d\n", needs.Lo, needs.Hi, rate, prices[slices.Min(classes)], prices[slices.Max(classes)])
	for _, r := range a.society.Losses {
		a.report += fmt.Sprintf("loss %d..%d\n", r.Lo, r.Hi)
	}
	for _, r := range a.calls {
		a.report += fmt.Sprintf("member %d..%d\n", r.Lo, r.Hi)
	}
	a.file = fileOf(l)
	return a
}

func recordOf(index int, line string) string {
	check := 41 * (index + 1)
	for k, b := range []byte(line) {
		check += (k + 3) * int(b)
	}
	return fmt.Sprintf("%04d:%02d:%s\n", check%9949, len(line), line)
}

func fileOf(l []string) []byte {
	var b []byte
	for i, line := range l {
		b = append(b, recordOf(i, line)...)
	}
	return b
}

// readOf is the model of Recover: it tries all lengths of a line.
func readOf(b []byte) ([]string, int) {
	var l []string
	size := 0
reading:
	for len(l) < 40 {
		rest := string(b[size:])
		for length := range 61 {
			if len(rest) < length+8 {
				break
			}
			if text := recordOf(len(l), rest[8:8+length]); strings.HasPrefix(rest, text) {
				l, size = append(l, rest[8:8+length]), size+len(text)
				continue reading
			}
		}
		break
	}
	return l, size
}

// resumeOf is the model of Resume, without its errors.
func resumeOf(b []byte, more []string) []byte {
	l, _ := readOf(b)
	s, _ := steps(first(), l)
	_, errors := steps(s, more)
	for i, line := range more {
		if errors[i] == api.OK {
			l = append(l, line)
		}
	}
	return fileOf(l)
}

// onlyAccepted leaves the refused lines out.
func onlyAccepted(l []string, errors []api.Errno) []string {
	var rest []string
	for i, line := range l {
		if errors[i] == api.OK {
			rest = append(rest, line)
		}
	}
	return rest
}

func pick[T any](r *rand.Rand, l ...T) T { return l[r.IntN(len(l))] }

// someDays are two numbers, which are rarely no range of days.
func someDays(r *rand.Rand) string {
	from, wide := r.IntN(9), pick(r, 0, 0, 0, 0, 0, 1, 1, 2, 5)
	if r.IntN(60) == 0 {
		from, wide = 28+r.IntN(3), 1+r.IntN(2)
	}
	if r.IntN(60) == 0 {
		wide = -1
	}
	return fmt.Sprint(from, " ", from+wide)
}

func someCount(r *rand.Rand) string {
	from, wide := pick(r, 50, 50+r.IntN(50), r.IntN(101)), pick(r, 0, 0, 1, 5, 40)
	return fmt.Sprint(from, " ", from+wide)
}

func join(l ...string) string { return strings.Join(l, " ") }

// below is a number below n, in a line.
func below(r *rand.Rand, n int) string { return strconv.Itoa(r.IntN(n)) }

func someParcel(r *rand.Rand) string {
	return join("parcel", below(r, 4), pick(r, "10", "40", "100", below(r, 1002)), someDays(r))
}

// someEntryLine makes or changes an entry.
func someEntryLine(r *rand.Rand) string {
	switch r.IntN(12) {
	case 0, 1, 2, 3:
		return join("sell", below(r, 4), below(r, 4), below(r, 4), someDays(r))
	case 4:
		return join("split", below(r, 4), pick(r, "1", "5", below(r, 30)), someDays(r))
	case 5, 6:
		return join("swap", below(r, 5), below(r, 4), someDays(r))
	case 7, 8:
		return join("harvest", below(r, 5), someDays(r))
	case 9:
		return join("strike", below(r, 5))
	case 10:
		return join("days", below(r, 5), someDays(r))
	}
	return join("sown", below(r, 4), someDays(r))
}

func someLossLine(r *rand.Rand) string {
	switch r.IntN(8) {
	case 0, 1, 2:
		return join("hail", pick(r, below(r, 4), below(r, 5)), pick(r, below(r, 9), below(r, 9), below(r, 32)), someCount(r))
	case 3:
		return join("count", below(r, 3), someCount(r))
	case 4:
		return join("drop", below(r, 3))
	case 5:
		return join("least", pick(r, "0", "8", "10", below(r, 103)))
	case 6:
		return join("whole", below(r, 3))
	}
	return join("rate", below(r, 3), below(r, 4), below(r, 102))
}

func someMemberLine(r *rand.Rand) string {
	switch r.IntN(7) {
	case 0, 1:
		return join("member", pick(r, "0", "1", "50", below(r, 1002)), pick(r, "0", "9999", below(r, 30)))
	case 2:
		return join("most", below(r, 4), below(r, 40))
	case 3:
		return join("leave", below(r, 4))
	case 4:
		return join("treaty", pick(r, "0 0", "2 5", "7 37", "7 38", "3 2"))
	}
	return join("reserve", below(r, 30))
}

func someYearLine(r *rand.Rand) string {
	switch r.IntN(6) {
	case 0:
		return join("exempt", below(r, 4), below(r, 3))
	case 1:
		return "undo"
	}
	losses := pick(r, "30 30", "10 11", "39 40", "50 50", "119 122", "200 200", "7 6", "0 5")
	return join("year", losses, pick(r, "100 100", "99 101", "100 106"), pick(r, "9", "5", "4", "100", "101"))
}

// someOddLine is none.
func someOddLine(r *rand.Rand) string {
	return pick(r, "", " ", "undo ", "undo 0", "hail", "sell 0 0 1 1", "least 08", "least -1", "least 10000", "Least 5", "least  5", "x 1", "member 5 5 5", "reserve ab")
}

func someLine(r *rand.Rand) string {
	switch r.IntN(20) {
	case 0, 1, 2, 3, 4, 5, 6:
		return someEntryLine(r)
	case 7, 8, 9, 10, 11:
		return someLossLine(r)
	case 12, 13, 14:
		return someMemberLine(r)
	case 15, 16, 17:
		return someYearLine(r)
	case 18:
		return someOddLine(r)
	}
	return someParcel(r)
}

// session is one of up to so many lines. Those that the model accepts are taken more often.
func session(r *rand.Rand, most int) []string {
	var l []string
	s := first()
	number, parcels := 1+r.IntN(most), r.IntN(4)
	for len(l) < number {
		some := someLine
		if len(l) < parcels {
			some = someParcel
		}
		line := some(r)
		after, e := step(s, line)
		for tries := 0; e != api.OK && tries < 20 && r.IntN(9) > 0; tries++ {
			line = some(r)
			after, e = step(s, line)
		}
		l, s = append(l, line), after
	}
	return l
}

// sessions are some of them, made by a fixed rule.
func sessions(seed uint64, number, most int) [][]string {
	r := rand.New(rand.NewPCG(seed, 12))
	var all [][]string
	for range number {
		all = append(all, session(r, most))
	}
	return all
}
