package frame_test

import (
	"fmt"
	"math/rand/v2"
	"slices"
	"testing"

	"hailstone/api"
	"hailstone/frame"
)

func ints(l ...int) []int { return l }

func to(low, high int) frame.Range { return frame.Range{Lo: low, Hi: high} }

func at(n int) frame.Range { return to(n, n) }

func field(rows, columns int, stems ...int) frame.Field {
	return frame.Field{Rows: rows, Columns: columns, Stems: stems}
}

func lot(seed, step, draws int) frame.Lot {
	return frame.Lot{Seed: seed, Step: step, Draws: draws}
}

func count(place int, hits frame.Range) frame.Count { return frame.Count{Place: place, Hits: hits} }

func late(place int, hits frame.Range) frame.Count {
	return frame.Count{Place: place, Hits: hits, Late: true}
}

func survey(f frame.Field, smooth int, counts ...frame.Count) frame.Survey {
	return frame.Survey{Field: f, Smooth: smooth, Counts: counts}
}

// chapter is the survey of the chapter's examples, with further counts.
func chapter(more ...frame.Count) frame.Survey {
	return survey(field(1, 4, 4, 4, 4, 4), 2, append([]frame.Count{count(0, at(4)), count(3, to(0, 1))}, more...)...)
}

// never is a count that is wrong in each truth of a field whose place 0 has fewer than 9 stems.
func never() frame.Count { return count(0, at(9)) }

func with(s frame.Survey, counts ...frame.Count) frame.Survey {
	s.Field.Stems = slices.Clone(s.Field.Stems)
	s.Counts = append(slices.Clone(s.Counts), counts...)
	return s
}

func clone(s frame.Survey) frame.Survey { return with(s) }

// drop is the survey without some counts.
func drop(s frame.Survey, skipped ...int) frame.Survey {
	var rest []frame.Count
	for i, c := range s.Counts {
		if !slices.Contains(skipped, i) {
			rest = append(rest, c)
		}
	}
	s.Counts = rest
	return s
}

// counted is the survey with the hits of some places counted as they are in the truth. It has one count for each place that is counted at all, so that there is room for them.
func counted(t *testing.T, s frame.Survey, truth []int, places ...int) frame.Survey {
	t.Helper()
	known := map[int]frame.Range{}
	for _, c := range s.Counts {
		if !c.Late {
			r, is := known[c.Place]
			if !is {
				r = to(0, api.MaxFrameStems)
			}
			known[c.Place] = to(max(r.Lo, c.Hits.Lo), min(r.Hi, c.Hits.Hi))
		}
	}
	for _, place := range places {
		known[place] = at(truth[place])
	}
	s.Counts = nil
	for place := range s.Field.Stems {
		if r, is := known[place]; is {
			s.Counts = append(s.Counts, count(place, r))
		}
	}
	return s
}

// choices are all lists with hits of each place. They are counted like the digits of a number.
func choices(f frame.Field) [][]int {
	total := 1
	for _, n := range f.Stems {
		total *= n + 1
	}
	var all [][]int
	for code := range total {
		var list []int
		for _, n := range f.Stems {
			list = append(list, code%(n+1))
			code /= n + 1
		}
		all = append(all, list)
	}
	return all
}

// smooth reports whether no two neighbours differ by more than the survey's Smooth. It walks over all pairs of places.
func smooth(s frame.Survey, list []int) bool {
	for p := range list {
		for q := range list {
			rows := p/s.Field.Columns - q/s.Field.Columns
			columns := p%s.Field.Columns - q%s.Field.Columns
			if rows*rows+columns*columns == 1 && list[p] > list[q]+s.Smooth {
				return false
			}
		}
	}
	return true
}

// shareOf is the greatest number of hundredths of the stems that is not more than the hits.
func shareOf(f frame.Field, list []int) int {
	hits, stems := 0, 0
	for place := range list {
		hits += list[place]
		stems += f.Stems[place]
	}
	if stems == 0 {
		return 0
	}
	share := 0
	for (share+1)*stems <= hits*100 {
		share++
	}
	return share
}

// truths are all lists in which all counts but the late and the skipped ones are right.
func truths(s frame.Survey, skipped ...int) [][]int {
	return slices.DeleteFunc(choices(s.Field), func(list []int) bool {
		for i, c := range s.Counts {
			n := list[c.Place]
			if !c.Late && !slices.Contains(skipped, i) && (n < c.Hits.Lo || n > c.Hits.Hi) {
				return true
			}
		}
		return !smooth(s, list)
	})
}

// decide reports whether the places decide: all pairs of truths are tried that are on different sides of the part.
func decide(f frame.Field, all [][]int, part int, places ...int) bool {
	var above, below [][]int
	for _, list := range all {
		if shareOf(f, list) >= part {
			above = append(above, list)
		} else {
			below = append(below, list)
		}
	}
	for _, a := range above {
		for _, b := range below {
			if !slices.ContainsFunc(places, func(p int) bool { return a[p] != b[p] }) {
				return false
			}
		}
	}
	return true
}

// drawn are the places of the lot: the places that are left are kept in a list, from which each draw takes one.
func drawn(f frame.Field, l frame.Lot) []int {
	var left, list []int
	for place := range f.Rows * f.Columns {
		left = append(left, place)
	}
	x := l.Seed
	for i := range l.Draws {
		x *= 31
		x += l.Step + i
		x %= 9973
		n, _ := slices.BinarySearch(left, x%(f.Rows*f.Columns))
		if n == len(left) {
			n = 0
		}
		list = append(list, left[n])
		left = slices.Delete(left, n, n+1)
	}
	return list
}

// subsets are all increasing lists of numbers below n, the shorter ones first, those of one length in lexicographic order.
func subsets(n int) [][]int {
	var all [][]int
	for mask := range 1 << n {
		var l []int
		for i := range n {
			if mask>>i&1 == 1 {
				l = append(l, i)
			}
		}
		all = append(all, l)
	}
	slices.SortFunc(all, func(a, b []int) int {
		if len(a) != len(b) {
			return len(a) - len(b)
		}
		return slices.Compare(a, b)
	})
	return all
}

// hasTruth asks the package whether the survey has a truth.
func hasTruth(t *testing.T, s frame.Survey) bool {
	t.Helper()
	_, e := frame.Bounds(s)
	if e != api.OK && e != api.ErrFail {
		t.Errorf("Bounds of %v: %v", s, e)
	}
	return e == api.OK
}

// surveys are valid surveys with at most 300 choices, made by a fixed rule: most counts are right in one of the truths.
func surveys(seed uint64, number int) []frame.Survey {
	r := rand.New(rand.NewPCG(seed, 3))
	var list []frame.Survey
	for len(list) < number {
		if s := someSurvey(r); len(choices(s.Field)) <= 300 {
			list = append(list, s)
		}
	}
	return list
}

func someField(r *rand.Rand) frame.Field {
	f := frame.Field{Rows: 1 + r.IntN(4), Columns: 1 + r.IntN(4)}
	if f.Rows*f.Columns > 9 {
		f.Columns = 2
	}
	most := 1 + 9/(f.Rows*f.Columns)
	for range f.Rows * f.Columns {
		f.Stems = append(f.Stems, min(9, r.IntN(most+1)))
	}
	return f
}

func someSurvey(r *rand.Rand) frame.Survey {
	s := survey(someField(r), r.IntN(3))
	if r.IntN(5) == 0 {
		s.Smooth = r.IntN(10)
	}
	all := truths(s)
	truth := all[r.IntN(len(all))]
	for range r.IntN(6) {
		s.Counts = append(s.Counts, someCount(r, truth))
	}
	return s
}

func someCount(r *rand.Rand, truth []int) frame.Count {
	c := frame.Count{Place: r.IntN(len(truth)), Late: r.IntN(5) == 0}
	n := truth[c.Place]
	if r.IntN(4) == 0 {
		n = r.IntN(4)
	}
	width := []int{0, 0, 0, 1, 1, 2, 9}
	c.Hits = to(max(0, n-width[r.IntN(len(width))]), min(9, n+width[r.IntN(len(width))]))
	return c
}

// inside reports whether the first range is a part of the second one.
func inside(a, b frame.Range) bool { return a.Lo >= b.Lo && a.Hi <= b.Hi }

func has(r frame.Range, n int) bool { return n >= r.Lo && n <= r.Hi }

// everything is what all calls return of a survey, as a text.
func everything(s frame.Survey) string {
	b, e := frame.Bounds(s)
	text := fmt.Sprint(frame.CheckField(s.Field), frame.CheckSurvey(s), b, e)
	for place := range s.Field.Stems {
		r, e := frame.Hits(s, place)
		text += fmt.Sprint(r, e)
	}
	for part := range 101 {
		v, e := frame.Above(s, part)
		l, f := frame.Fewest(s, part)
		text += fmt.Sprint(v, e, l, f)
	}
	l, e := frame.Leave(s)
	zeros := make([]int, len(s.Field.Stems))
	share, f := frame.Share(s, s.Field.Stems)
	text += fmt.Sprint(l, e, share, f, frame.ProveTruth(s, zeros), frame.ProveTruth(s, s.Field.Stems))
	draws := lot(77, 5, min(6, len(zeros)))
	l, e = frame.Draw(s.Field, draws)
	k, f := frame.Foreign(s.Field, draws, s.Counts)
	return text + fmt.Sprint(l, e, k, f)
}
