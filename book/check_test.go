package book_test

import (
	"fmt"
	"math"
	"slices"
	"strconv"
	"strings"
	"testing"

	"hailstone/api"
	"hailstone/book"
)

// lineCase is a line that follows others, all of which are accepted, and its error, or OK.
type lineCase struct {
	before []string
	line   string
	want   api.Errno
}

// cases have the same lines before them.
func cases(before []string, want api.Errno, l ...string) []lineCase {
	var all []lineCase
	for _, line := range l {
		all = append(all, lineCase{before, line, want})
	}
	return all
}

// checkLines checks the error of each line, that the model has it too, and that a refused line changes nothing.
func checkLines(t *testing.T, lists ...[]lineCase) {
	t.Helper()
	for _, x := range slices.Concat(lists...) {
		before := accepted(t, x.before)
		after, e := last(t, with(x.before, x.line))
		if e != x.want {
			t.Errorf("%q after %q: %v, not %v", x.line, x.before, e, x.want)
		}
		if x.want != api.OK && !same(before, after) {
			t.Errorf("%q after %q is refused, but changes %v to %v", x.line, x.before, before, after)
		}
		if model, f := step(before, x.line); !same(model, after) || f != x.want {
			t.Errorf("%q after %q: the state is %v; the model has %v, %v", x.line, x.before, after, model, f)
		}
	}
}

// words are those of all lines, each with numbers with which it is accepted after the lines of the chapter.
func words() map[string][]string {
	all := map[string][]string{}
	for _, line := range of("sell 0 2 3 9 9; split 0 30 9 9; swap 0 2 9 9; harvest 0 9 9; strike 0; days 0 6 6; sown 0 0 0; least 9; whole 0; rate 0 1 41; hail 1 3 20 20; count 1 50 51; drop 0; member 5 6; most 0 7; leave 0; treaty 3 4; reserve 5; year 1 1 9 9 9; exempt 0 1; undo") {
		parts := strings.Split(line, " ")
		all[parts[0]] = parts[1:]
	}
	return all
}

func TestWords(t *testing.T) {
	for word, parts := range words() {
		checkLines(t, cases(chapter(), api.OK, strings.Join(append([]string{word}, parts...), " ")))
	}
	checkLines(t, cases(nil, api.OK, "parcel 0 1 0 0"))
}

// TestNoLines has ErrForm, which comes before all other errors.
func TestNoLines(t *testing.T) {
	checkLines(t, cases(nil, api.ErrForm, "", " ", "  ", "x", "0", "5 5", "\n", "\x00", "\xff\xfe", "é", "parcels 0 1 0 0", "parce 0 1 0 0", "Parcel 0 1 0 0", "PARCEL 0 1 0 0", "parcel0 1 0 0", "parcel\t0 1 0 0", "parcel\n0 1 0 0", "parcel", "parcel ", "0 parcel 1 0 0", "parcel 0 parcel 0 0", "parcel,0,1,0,0", "play", "word 1", "undo undo"))
	checkLines(t, cases(nil, api.ErrForm, "least 08", "least 00", "least 000", "least 0008", "least 10000", "least 01000", "least 99999", "least 65536", "least 4294967296", "least 18446744073709551616", "least -1", "least -0", "least +8", "least 8.0", "least 8,", "least 8e0", "least 0x8", "least 0b1", "least 0o7", "least 1_0", "least x", "least 8x", "least x8", "least \x008", "least 8\x00", "least \xff", "least ٣", "least ８", "least ⁸", "least '8'", "least ''", "least NaN", "least inf"))
	for word, parts := range words() {
		line := func(parts ...string) string { return strings.Join(append([]string{word}, parts...), " ") }
		none := []string{line() + " ", " " + line(parts...), line(parts...) + " ", line(parts...) + "\n", line(parts...) + "\t", line(parts...) + " 0", line(parts...) + " 0 0", strings.ToUpper(word) + line(parts...)[len(word):], word[1:] + line(parts...)[len(word):], "x" + line(parts...)}
		if len(parts) > 0 {
			none = append(none, line(), line(parts[1:]...), word+strings.Join(parts, " "), line(parts[0], "", strings.Join(parts[1:], " ")))
		}
		for i := range parts {
			for _, text := range []string{"", "00", "01", "007", "10000", "12345", "-1", "+1", "-", "1-", "1.", "a", "1a", "a1", "0x1", "1_1", " 1", "1 ", "\t1", "1\t"} {
				none = append(none, line(slices.Concat(parts[:i], []string{text}, parts[i+1:])...))
			}
		}
		checkLines(t, cases(chapter(), api.ErrForm, none...))
	}
	// Each of these has other errors, too.
	checkLines(t, cases(full(), api.ErrForm, "parcel 9 9999 31 031", "sell 9 9 9 31 30 0", "split 9 0 31 -1", "swap 9 9 5 04", "harvest 99 31 10000", "strike 99 9", "days 9 31 a", "sown 9 31 ", "least 101 ", "whole 2 2", "rate 9 9 00", "hail 9 99 101 0100", "count 9 9 08", "drop 09", "member 0 00", "most 9", "leave 10000", "treaty 9 08", "year 9 0 9 0 0101", "exempt 9 02", "undo 9"))
}

// TestNumbers has all numbers that there are, and as many that are none.
func TestNumbers(t *testing.T) {
	for from := 0; from < 12000; from += 40 {
		var l []string
		for n := from; n < from+40; n++ {
			l = append(l, "reserve "+strconv.Itoa(n))
		}
		_, errors := play(t, l)
		for i, e := range errors {
			want := api.OK
			if from+i > 9999 {
				want = api.ErrForm
			}
			if e != want {
				t.Errorf("%q: %v", l[i], e)
			}
		}
		if s, _ := play(t, l[:1+from%7]); from < 9990 && s.Reserve != from+from%7 {
			t.Errorf("after %q: %v", l[:1+from%7], s)
		}
	}
}

// TestErrorsOfParcels has the first row.
func TestErrorsOfParcels(t *testing.T) {
	three := times(3, "parcel 0 1 0 0")
	four := times(4, "parcel 0 1 0 0")
	harvested := of("parcel 0 1 0 0; harvest 0 1 1")
	checkLines(t,
		cases(nil, api.OK, "parcel 0 0 0 0", "parcel 3 1000 0 30", "parcel 1 999 30 30", "parcel 2 1 29 30"),
		cases(nil, api.ErrRange, "parcel 4 1 0 0", "parcel 9999 1 0 0", "parcel 0 1001 0 0", "parcel 0 9999 0 0", "parcel 0 1 1 0", "parcel 0 1 30 29", "parcel 0 1 30 31", "parcel 0 1 31 31", "parcel 0 1 0 31", "parcel 0 1 9999 9999", "parcel 4 1001 31 0"),
		cases(three, api.OK, "parcel 0 1 0 0"),
		cases(four, api.ErrLimit, "parcel 0 1 0 0"),
		cases(four, api.ErrRange, "parcel 4 1 0 0", "parcel 0 1001 0 0", "parcel 0 1 1 0", "parcel 0 1 0 31"),
		cases(harvested, api.ErrState, "parcel 0 1 0 0"),
		cases(harvested, api.ErrRange, "parcel 4 1 0 0", "parcel 0 1001 0 0", "parcel 0 1 1 0"),
		cases(with(harvested, "strike 0"), api.OK, "parcel 0 1 0 0"),
		cases(with(four, "harvest 0 1 1"), api.ErrState, "parcel 0 1 0 0"),
		cases(full(), api.ErrState, "parcel 0 1 0 0"),
		cases(full(), api.ErrRange, "parcel 0 1 0 31"),
	)
}

// TestErrorsOfEntries has the rows of the lines that make entries.
func TestErrorsOfEntries(t *testing.T) {
	empty, one := []string(nil), of("parcel 0 1000 0 0")
	fifth := with(full(), "strike 5") // one entry less than there may be
	checkLines(t,
		cases(chapter(), api.OK, "sell 0 2 3 9 9", "sell 2 1 0 30 30", "sell 2 1 0 9 9"),
		cases(chapter(), api.ErrRange, "sell 0 4 0 9 9", "sell 0 2 4 9 9", "sell 0 9999 0 9 9", "sell 0 2 2 9 9", "sell 0 2 3 10 9", "sell 0 2 3 30 31", "sell 0 2 3 31 31", "sell 0 2 3 9999 9999"),
		cases(chapter(), api.ErrRange, "sell 3 4 0 9 9", "sell 3 0 4 9 9", "sell 3 0 0 9 9", "sell 3 0 1 10 9", "sell 3 0 1 9 31", "sell 9999 9999 9999 9 9"),
		cases(chapter(), api.ErrNone, "sell 3 0 1 9 9", "sell 9999 0 1 9 9"),
		cases(empty, api.ErrNone, "sell 0 0 1 0 0", "split 0 1 0 0", "swap 0 1 0 0", "swap 1 0 0 0", "harvest 0 0 0"),
		cases(fifth, api.OK, "sell 4 3 0 13 13", "split 1 1 13 13", "swap 1 2 13 13", "harvest 4 11 12"),

		cases(chapter(), api.OK, "split 0 30 9 9", "split 0 69 9 9", "split 0 1 9 9", "split 2 1 30 30"),
		cases(one, api.OK, "split 0 999 1 1", "split 0 1 0 30"),
		cases(one, api.ErrFail, "split 0 1000 1 1"),
		cases(chapter(), api.ErrFail, "split 0 70 9 9"),
		cases(chapter(), api.ErrRange, "split 0 0 9 9", "split 0 1001 9 9", "split 0 9999 9 9", "split 0 30 9 8", "split 0 30 30 31", "split 0 30 31 31"),
		cases(chapter(), api.ErrRange, "split 3 0 9 9", "split 3 1001 9 9", "split 3 30 9 8", "split 3 30 9 31"),
		cases(chapter(), api.ErrNone, "split 3 30 9 9", "split 4 30 9 9", "split 9999 30 9 9"),
		cases(one, api.ErrNone, "split 1 30 9 9"),
		cases(with(one, "split 0 50 5 5"), api.OK, "split 1 20 5 5", "split 1 20 6 6"),
		cases(with(one, "split 0 50 5 5"), api.ErrFail, "split 1 20 4 4"),
		cases(with(one, "split 0 50 5 5"), api.ErrNone, "split 2 20 6 6"),

		cases(chapter(), api.OK, "swap 0 2 9 9", "swap 2 0 30 30"),
		cases(chapter(), api.ErrRange, "swap 0 0 9 9", "swap 0 2 9 8", "swap 0 2 30 31", "swap 0 2 31 31"),
		cases(chapter(), api.ErrRange, "swap 3 3 9 9", "swap 9999 9999 9 9", "swap 0 3 9 8", "swap 3 0 9 31"),
		cases(chapter(), api.ErrNone, "swap 0 3 9 9", "swap 3 0 9 9", "swap 9999 3 9 9", "swap 0 9999 9 9"),
		cases(one, api.ErrNone, "swap 0 1 1 1", "swap 1 0 1 1"),

		cases(chapter(), api.OK, "harvest 0 9 9", "harvest 2 30 30", "harvest 0 9 30"),
		cases(chapter(), api.ErrRange, "harvest 0 9 8", "harvest 0 30 31", "harvest 0 31 31", "harvest 3 9 8", "harvest 3 9 31"),
		cases(chapter(), api.ErrNone, "harvest 3 9 9", "harvest 9999 9 9"),
		cases(chapter(), api.ErrFail, "harvest 0 1 1", "harvest 1 9 9"),

		cases(full(), api.ErrLimit, "sell 0 1 0 20 20", "split 0 1 20 20", "swap 0 1 20 20", "harvest 0 20 20", "sell 0 0 1 20 20", "harvest 4 20 20"),
		cases(full(), api.ErrNone, "sell 5 0 1 20 20", "split 5 1 20 20", "swap 0 5 20 20", "swap 5 0 20 20", "harvest 5 20 20"),
		cases(full(), api.ErrRange, "sell 0 1 1 20 20", "split 0 0 20 20", "swap 0 0 20 20", "harvest 0 20 19", "sell 5 1 1 20 20", "split 5 0 20 20", "swap 5 5 20 20", "harvest 5 20 19"),
	)
}

// TestErrorsOfCorrections has the rows of the lines that correct the book.
func TestErrorsOfCorrections(t *testing.T) {
	sold := of("parcel 0 10 0 0; sell 0 0 1 1 1; sell 0 1 2 2 2")
	checkLines(t,
		cases(chapter(), api.OK, "strike 0", "strike 2", "strike 3"),
		cases(chapter(), api.ErrState, "strike 1"),
		cases(chapter(), api.ErrNone, "strike 4", "strike 9999"),
		cases(with(chapter(), "strike 3"), api.ErrNone, "strike 3"),
		cases(nil, api.ErrNone, "strike 0", "strike 1", "days 0 1 1", "sown 0 1 1"),
		cases(full(), api.OK, "strike 5"),
		cases(full(), api.ErrNone, "strike 6"),
		cases(sold, api.ErrFail, "strike 0"),
		cases(sold, api.OK, "strike 1"),

		cases(chapter(), api.OK, "days 0 6 6", "days 0 4 6", "days 0 0 30", "days 3 8 30", "days 3 30 30", "days 1 5 7"),
		cases(chapter(), api.ErrRange, "days 0 6 5", "days 0 4 31", "days 0 31 31", "days 3 9999 9999"),
		cases(chapter(), api.ErrNone, "days 4 6 6", "days 4 6 5", "days 4 31 31", "days 9999 6 6"),
		cases(chapter(), api.ErrFail, "days 2 4 4", "days 1 8 8"),
		cases(sold, api.ErrFail, "days 0 3 3", "days 1 0 0"),
		cases(sold, api.OK, "days 0 2 2", "days 1 1 1", "days 0 0 5"),

		cases(chapter(), api.OK, "sown 0 0 0", "sown 0 2 3", "sown 0 30 30", "sown 1 8 8", "sown 1 0 30"),
		cases(chapter(), api.ErrRange, "sown 0 3 2", "sown 0 2 31", "sown 1 31 31", "sown 1 9999 9999"),
		cases(chapter(), api.ErrNone, "sown 2 0 0", "sown 2 1 0", "sown 2 31 31", "sown 3 0 0", "sown 9999 0 0"),
		cases(chapter(), api.ErrFail, "sown 1 9 9"),
	)
}

// TestErrorsOfRates has the rows of the lines about the tariff.
func TestErrorsOfRates(t *testing.T) {
	checkLines(t,
		cases(nil, api.OK, "least 0", "least 8", "least 100", "whole 0", "whole 1", "rate 0 0 0", "rate 0 2 100", "rate 1 0 100", "rate 1 2 0", "rate 1 1 99"),
		cases(nil, api.ErrRange, "least 101", "least 9999", "whole 2", "whole 9999", "rate 0 0 101", "rate 1 2 101", "rate 0 1 9999"),
		cases(nil, api.ErrNone, "rate 2 0 0", "rate 0 3 0", "rate 9999 0 0", "rate 0 9999 0", "rate 2 3 0", "rate 2 0 101", "rate 0 3 101"),
	)
}

// TestErrorsOfLosses has the rows of the lines about losses.
func TestErrorsOfLosses(t *testing.T) {
	two, three := times(2, "hail 0 0 0 0"), times(3, "hail 0 0 0 0")
	checkLines(t,
		cases(nil, api.OK, "hail 0 0 0 0", "hail 3 30 100 100", "hail 1 10 0 100"),
		cases(nil, api.ErrRange, "hail 4 0 0 0", "hail 9999 0 0 0", "hail 0 31 0 0", "hail 0 9999 0 0", "hail 0 0 1 0", "hail 0 0 100 99", "hail 0 0 100 101", "hail 0 0 101 101", "hail 0 0 0 101"),
		cases(two, api.OK, "hail 1 1 1 1"),
		cases(three, api.ErrLimit, "hail 1 1 1 1"),
		cases(three, api.ErrRange, "hail 4 1 1 1", "hail 1 31 1 1", "hail 1 1 1 0", "hail 1 1 1 101"),
		cases(full(), api.ErrLimit, "hail 0 2 0 100"),

		cases(nil, api.ErrNone, "count 0 1 1", "count 0 1 0", "drop 0", "drop 9999"),
		cases(chapter(), api.OK, "count 0 20 20", "count 1 100 100", "count 1 0 0", "drop 0", "drop 1"),
		cases(chapter(), api.ErrRange, "count 1 2 1", "count 1 100 101", "count 1 101 101", "count 0 9999 9999"),
		cases(chapter(), api.ErrNone, "count 2 1 1", "count 2 2 1", "count 2 101 101", "count 9999 1 1", "drop 2", "drop 9999"),
		cases(with(chapter(), "drop 0"), api.ErrNone, "drop 1", "count 1 1 1"),
		cases(with(chapter(), "drop 0"), api.OK, "drop 0", "count 0 1 1"),
	)
}

// TestErrorsOfMembers has the rows of the lines about members, the Treaty and the Reserve.
func TestErrorsOfMembers(t *testing.T) {
	four, five := times(3, "member 5 5"), times(4, "member 5 5")
	checkLines(t,
		cases(nil, api.OK, "member 1 0", "member 1000 9999"),
		cases(nil, api.ErrRange, "member 0 5", "member 1001 5", "member 9999 5"),
		cases(four, api.OK, "member 5 5"),
		cases(five, api.ErrLimit, "member 5 5", "member 1000 0"),
		cases(five, api.ErrRange, "member 0 5", "member 1001 5"),

		cases(nil, api.OK, "most 0 0", "most 0 9999"),
		cases(nil, api.ErrNone, "most 1 5", "most 9999 5", "leave 1", "leave 9999"),
		cases(nil, api.ErrState, "leave 0"),
		cases(chapter(), api.OK, "leave 0", "leave 1", "most 1 0"),
		cases(chapter(), api.ErrNone, "leave 2", "most 2 0"),
		cases(with(chapter(), "leave 1"), api.ErrState, "leave 0"),
		cases(with(chapter(), "leave 0"), api.ErrState, "leave 0"),
		cases(with(chapter(), "leave 0"), api.ErrNone, "leave 1", "most 1 0"),

		cases(nil, api.OK, "treaty 0 0", "treaty 0 30", "treaty 9999 9999", "treaty 9969 9999"),
		cases(nil, api.ErrRange, "treaty 1 0", "treaty 9999 9998", "treaty 0 31", "treaty 9968 9999", "treaty 0 9999"),
		cases(nil, api.OK, "reserve 0", "reserve 9999"),
	)
}

// TestErrorsOfYears has the rows of the lines about the zone.
func TestErrorsOfYears(t *testing.T) {
	five, six := times(5, "year 0 0 0 0 0"), times(6, "year 0 0 0 0 0")
	checkLines(t,
		cases(nil, api.OK, "year 0 0 0 0 0", "year 0 5 0 5 100", "year 9994 9999 9994 9999 100", "year 9999 9999 9999 9999 1"),
		cases(nil, api.ErrRange, "year 1 0 0 0 1", "year 0 0 1 0 1", "year 0 6 0 0 1", "year 0 0 0 6 1", "year 0 9999 0 0 1", "year 9993 9999 0 0 1", "year 0 0 9993 9999 1", "year 0 0 0 0 101", "year 0 0 0 0 9999"),
		cases(five, api.OK, "year 0 0 0 0 0"),
		cases(six, api.ErrLimit, "year 0 0 0 0 0"),
		cases(six, api.ErrRange, "year 1 0 0 0 0", "year 0 0 0 6 0", "year 0 0 0 0 101"),

		cases(nil, api.ErrNone, "exempt 0 0", "exempt 0 1", "exempt 0 2", "undo"),
		cases(chapter(), api.OK, "exempt 0 0", "exempt 0 1", "exempt 1 0", "exempt 1 1", "undo"),
		cases(chapter(), api.ErrRange, "exempt 0 2", "exempt 1 2", "exempt 0 9999"),
		cases(chapter(), api.ErrNone, "exempt 2 1", "exempt 2 2", "exempt 9999 0"),
		cases(with(chapter(), "undo"), api.ErrNone, "exempt 1 1"),
		cases(with(chapter(), "undo", "undo"), api.ErrNone, "undo", "exempt 0 1"),
		cases(six, api.OK, "exempt 5 1", "undo"),
	)
}

// TestSizes has the first error of a state that does not stand: the sizes of its days, multiplied, are more than 1000.
func TestSizes(t *testing.T) {
	thousand := times(3, "parcel 0 9 0 9")
	ninety := of("parcel 0 9 0 12; parcel 0 9 0 6") // and one more
	checkLines(t,
		cases(thousand, api.OK, "parcel 0 9 0 0", "sown 0 21 30", "harvest 0 9 9"),
		cases(thousand, api.ErrLimit, "parcel 0 9 0 1", "sown 0 0 10", "sown 2 0 30", "harvest 0 9 10", "sell 0 0 1 0 1"),
		cases(thousand, api.ErrFail, "sell 0 1 2 0 0"),
		cases(thousand, api.ErrLimit, "sell 0 1 2 0 1"), // it contradicts, too
		cases(with(thousand, "harvest 0 9 9"), api.ErrLimit, "days 0 8 9", "days 0 0 30"),
		cases(with(thousand, "harvest 0 9 9", "sown 1 0 4"), api.OK, "days 0 8 9"),
		cases(times(2, "parcel 0 9 0 30"), api.OK, "parcel 0 9 0 0"),
		cases(times(2, "parcel 0 9 0 30"), api.ErrLimit, "parcel 0 9 0 1"),
		cases(ninety, api.OK, "harvest 0 10 19", "parcel 0 9 0 9"),
		cases(ninety, api.ErrLimit, "harvest 0 10 20", "parcel 0 9 0 10"),
		cases(with(ninety, "harvest 0 10 19"), api.ErrLimit, "days 0 10 20", "sown 0 0 14", "sown 1 0 7"),
		cases(with(ninety, "harvest 0 10 19"), api.OK, "days 0 9 18", "sown 0 0 13", "sown 1 1 7"),
	)
}

// TestContradictions has the second error of a state that does not stand.
func TestContradictions(t *testing.T) {
	sold := of("parcel 0 10 3 4; parcel 1 20 0 0; sell 0 0 2 5 6")
	harvested := with(sold, "harvest 0 8 8")
	checkLines(t,
		cases(sold, api.ErrFail, "sell 0 0 3 7 7", "sell 0 0 3 6 6", "sell 0 1 3 7 7", "sell 0 2 3 4 4", "harvest 0 2 2", "split 0 10 7 7"),
		cases(sold, api.OK, "sell 0 2 3 7 7", "sell 0 2 0 5 5", "swap 0 1 5 5", "harvest 0 5 6", "harvest 1 0 0", "split 0 9 7 7", "sown 0 9 9", "strike 0"),
		cases(with(sold, "sell 1 1 2 0 0"), api.ErrFail, "swap 0 1 7 7"),
		cases(harvested, api.ErrFail, "harvest 0 9 9", "sell 0 2 0 9 9", "sown 0 9 9", "days 0 9 9", "days 1 4 4"),
		cases(harvested, api.OK, "sown 0 8 9", "days 0 8 9", "days 1 4 5"),
		cases(with(harvested, "hail 0 4 0 100", "least 0"), api.ErrFail, "days 0 9 9"),
		cases(with(sold, "hail 2 9 100 100"), api.ErrFail, "sell 0 0 3 7 7"),
	)
}

// TestShort has the last error of a state that does not stand. Of the value 100 a count of so many is paid as many pence here.
func TestShort(t *testing.T) {
	plain := of("least 0; rate 0 1 50; rate 0 2 100; parcel 0 100 0 0")
	wide := with(plain, "hail 0 5 20 50")
	checkLines(t,
		cases(plain, api.OK, "hail 0 5 20 50", "hail 0 5 70 100", "hail 0 5 0 30", "hail 1 5 0 100"),
		cases(plain, api.ErrShort, "hail 0 5 20 51", "hail 0 5 69 100", "hail 0 5 0 31", "hail 0 5 0 100"),
		cases(wide, api.OK, "count 0 21 51", "count 0 20 50", "hail 0 6 20 50", "least 20", "rate 0 1 49", "rate 1 1 100"),
		cases(wide, api.ErrShort, "count 0 19 50", "count 0 20 51", "rate 0 1 51", "least 21", "hail 0 6 20 51"),
		cases(wide, api.OK, "parcel 0 1 0 0", "parcel 0 100 6 6", "parcel 1 100 0 0"),
		cases(wide, api.ErrShort, "parcel 0 2 0 0", "parcel 0 100 3 3", "parcel 0 4 5 6"),
		cases(with(plain, "hail 0 5 30 30"), api.OK, "sell 0 0 1 5 6", "harvest 0 5 6", "sown 0 5 6", "split 0 30 5 6"),
		cases(with(plain, "hail 0 5 31 31"), api.ErrShort, "sell 0 0 1 5 6", "harvest 0 5 6", "sown 0 5 6"),
		cases(with(plain, "hail 0 5 31 31"), api.OK, "sell 0 0 1 5 5", "harvest 0 6 7", "sown 0 4 5", "split 0 30 5 6"),
		cases(with(plain, "sell 0 0 1 5 5", "hail 0 5 0 100"), api.ErrShort, "strike 0", "days 0 5 6", "days 0 6 6"),
		cases(with(plain, "hail 0 5 0 30", "hail 0 5 0 20"), api.ErrShort, "rate 0 1 60", "count 1 0 31", "count 0 0 31"),
		cases(with(plain, "hail 0 5 0 30", "hail 0 5 0 20"), api.OK, "count 1 0 30", "drop 0"),
		cases(with(plain, "whole 0", "least 20", "hail 0 5 19 50"), api.ErrShort, "whole 1", "least 19"),
		cases(with(plain, "whole 0", "least 20", "hail 0 5 19 50"), api.OK, "least 21", "least 100"),
	)
}

// limitsOf asks all calls for the error of a session, and that there is nothing else.
func limitsOf(t *testing.T, l []string, want api.Errno) {
	t.Helper()
	s, errors, e := book.Play(l)
	society, f := book.Society(l)
	calls, g := book.Calls(l)
	text, h := book.Report(l)
	file, i := book.Write(l)
	more, j := book.Resume(nil, l)
	for _, e := range []api.Errno{e, f, g, h, i, j} {
		if e != want {
			t.Errorf("an error of %d lines: %v, not %v", len(l), e, want)
		}
	}
	if want == api.OK {
		return
	}
	if !same(s, book.State{}) || len(errors)+len(calls)+len(text)+len(file)+len(more) > 0 || len(society.Members)+len(society.Losses)+society.Reserve != 0 || society.Treaty != at(0) {
		t.Errorf("with the error of %d lines: %v, %v, %v, %v, %q, %v, %v", len(l), s, errors, society, calls, text, file, more)
	}
}

// TestLimits has the first row of the errors.
func TestLimits(t *testing.T) {
	long := strings.Repeat("x", 61)
	for _, x := range []struct {
		l    []string
		want api.Errno
	}{
		{nil, api.OK},
		{[]string{}, api.OK},
		{times(40, "undo"), api.OK},
		{times(41, "undo"), api.ErrLimit},
		{times(41, ""), api.ErrLimit},
		{times(9999, "reserve 5"), api.ErrLimit},
		{[]string{long[:60]}, api.OK},
		{[]string{long}, api.ErrLimit},
		{times(40, long[:60]), api.OK},
		{times(41, long), api.ErrLimit},
		{with(chapter(), long), api.ErrLimit},
		{with([]string{long}, chapter()...), api.ErrLimit},
		{[]string{strings.Repeat("é", 30)}, api.OK},
		{[]string{strings.Repeat("é", 30) + "x"}, api.ErrLimit},
		{[]string{strings.Repeat("\xff", 61)}, api.ErrLimit},
		{[]string{"reserve 5" + strings.Repeat(" ", 51)}, api.OK},
		{[]string{"reserve 5" + strings.Repeat(" ", 52)}, api.ErrLimit},
		{[]string{strings.Repeat("x", math.MaxUint16)}, api.ErrLimit},
		{with(full(), times(17, "undo 1")...), api.OK},
		{with(full(), times(18, "undo 1")...), api.ErrLimit},
	} {
		limitsOf(t, x.l, x.want)
	}
}

// TestLimitsOfResume has the row of Resume: the lines that can be read count, also refused ones, but of the others only those that are accepted.
func TestLimitsOfResume(t *testing.T) {
	long := strings.Repeat("x", 61)
	for _, x := range []struct {
		name       string
		read, more []string
		want       api.Errno
	}{
		{"no more", times(40, "reserve 5"), nil, api.OK},
		{"one more", times(39, "reserve 5"), of("reserve 6"), api.OK},
		{"one too many", times(40, "reserve 5"), of("reserve 6"), api.ErrLimit},
		{"refused ones can be read", times(40, "x"), of("reserve 6"), api.ErrLimit},
		{"39 refused ones can be read", times(39, "x"), of("reserve 6"), api.OK},
		{"the others are refused", times(40, "x"), times(40, "x"), api.OK},
		{"one of the others is accepted", times(39, "x"), with(times(39, "x"), "reserve 6"), api.OK},
		{"two of the others are accepted", times(39, "x"), with(times(38, "x"), "reserve 6", "reserve 7"), api.ErrLimit},
		{"forty others", nil, times(40, "reserve 6"), api.OK},
		{"forty-one others", nil, times(41, "x"), api.ErrLimit},
		{"a long one", nil, []string{long}, api.ErrLimit},
		{"forty-one others, after others", times(40, "x"), times(41, "x"), api.ErrLimit},
		{"a long one, after others", times(1, "x"), []string{"reserve 6", long}, api.ErrLimit},
		{"twenty of each", times(20, "x"), times(20, "reserve 6"), api.OK},
		{"twenty, and one more", times(20, "x"), times(21, "reserve 6"), api.ErrLimit},
	} {
		file, e := book.Resume(fileOf(x.read), x.more)
		if e != x.want || e != api.OK && len(file) > 0 {
			t.Errorf("%s: Resume: %q, %v, not %v", x.name, file, e, x.want)
		}
		if x.want == api.OK && string(file) != string(resumeOf(fileOf(x.read), x.more)) {
			t.Errorf("%s: Resume: %q", x.name, file)
		}
		lines, n := book.Recover(fileOf(x.read))
		if fmt.Sprint(lines) != fmt.Sprint(x.read) || n != len(fileOf(x.read)) {
			t.Errorf("%s: Recover: %q, %d", x.name, lines, n)
		}
	}
}
