package storm_test

import (
	"math/rand/v2"
	"slices"
	"testing"

	"hailstone/api"
	"hailstone/storm"
)

func ints(l ...int) []int { return l }

func to(low, high int) storm.Range { return storm.Range{Lo: low, Hi: high} }

func at(n int) storm.Range { return to(n, n) }

func rect(x, y storm.Range) storm.Rect { return storm.Rect{X: x, Y: y} }

func hail(x, y, size storm.Range) storm.Card { return storm.Card{X: x, Y: y, Hail: true, Size: size} }

func none(x, y storm.Range) storm.Card { return storm.Card{X: x, Y: y} }

// never is a card that is wrong in each truth: hail without a size.
func never() storm.Card { return hail(at(0), at(0), at(0)) }

// chapter is the storm of the chapter's examples with its first cards, as many as count says, and further ones.
func chapter(count int, more ...storm.Card) storm.Storm {
	cards := []storm.Card{hail(at(0), at(1), at(3)), hail(at(4), at(3), to(2, 3)), none(at(2), at(3)), none(at(2), at(2))}
	return storm.Storm{Wide: 5, High: 5, Fall: 1, A: to(0, 4), B: to(0, 4), Half: at(1), Peak: at(3), Cards: append(cards[:count:count], more...)}
}

// single has one choice: the middle of its path goes from the row 1 to the row 3. Its sizes are, y by y:
//
//	3 0 0 0 0
//	5 5 3 0 0
//	3 5 5 5 3
//	0 0 3 5 5
//	0 0 0 0 3
func single(cards ...storm.Card) storm.Storm {
	return storm.Storm{Wide: 5, High: 5, Fall: 2, A: at(1), B: at(3), Half: at(1), Peak: at(5), Cards: cards}
}

// untrue is a storm without a truth.
func untrue() storm.Storm { return single(never()) }

func with(s storm.Storm, cards ...storm.Card) storm.Storm {
	s.Cards = append(slices.Clone(s.Cards), cards...)
	return s
}

func clone(s storm.Storm) storm.Storm { return with(s) }

// drop is the storm without some cards.
func drop(s storm.Storm, skipped ...int) storm.Storm {
	var rest []storm.Card
	for i, c := range s.Cards {
		if !slices.Contains(skipped, i) {
			rest = append(rest, c)
		}
	}
	s.Cards = rest
	return s
}

// only is the storm with some of its cards.
func only(s storm.Storm, kept ...int) storm.Storm {
	var cards []storm.Card
	for _, i := range kept {
		cards = append(cards, s.Cards[i])
	}
	s.Cards = cards
	return s
}

// choices are all choices of one number of each range. They are counted like the digits of a number.
func choices(s storm.Storm) []storm.Truth {
	ranges := []storm.Range{s.A, s.B, s.Half, s.Peak}
	total := 1
	for _, r := range ranges {
		total *= r.Hi - r.Lo + 1
	}
	var list []storm.Truth
	for code := range total {
		var n [4]int
		for i, r := range ranges {
			size := r.Hi - r.Lo + 1
			n[i] = r.Lo + code%size
			code /= size
		}
		list = append(list, storm.Truth{A: n[0], B: n[1], Half: n[2], Peak: n[3]})
	}
	return list
}

// sky draws the sizes of all places, by x and then by y, in another way than the package: the stones become smaller row by row from the middle of the path. A row has L parts, so that the middle is at a whole part.
func sky(s storm.Storm, t storm.Truth) [][]int {
	parts := s.Wide - 1
	var columns [][]int
	middle := parts * t.A
	for range s.Wide {
		column := make([]int, s.High)
		for y := range column {
			low, high := min(parts*y, middle), max(parts*y, middle)
			if high > low+parts*t.Half {
				continue
			}
			column[y] = t.Peak
			for low+parts <= high {
				low += parts
				column[y] -= s.Fall
			}
			if column[y] < 1 {
				column[y] = 1
			}
		}
		columns = append(columns, column)
		middle += t.B - t.A
	}
	return columns
}

// right reports whether the card is right under the sky.
func right(c storm.Card, columns [][]int) bool {
	for x := c.X.Lo; x <= c.X.Hi; x++ {
		for _, size := range columns[x][c.Y.Lo : c.Y.Hi+1] {
			if c.Hail && size > 0 && size >= c.Size.Lo && size <= c.Size.Hi || !c.Hail && size == 0 {
				return true
			}
		}
	}
	return false
}

// model has the sky of each choice of a storm, and says which cards are right under it.
type model struct {
	choices []storm.Truth
	skies   [][][]int
	right   [][]bool
}

func modelOf(s storm.Storm) model {
	m := model{choices: choices(s)}
	for _, t := range m.choices {
		columns := sky(s, t)
		var marks []bool
		for _, c := range s.Cards {
			marks = append(marks, right(c, columns))
		}
		m.skies = append(m.skies, columns)
		m.right = append(m.right, marks)
	}
	return m
}

// truths are the numbers of the choices in which all cards but the skipped ones are right.
func (m model) truths(skipped ...int) []int {
	var list []int
	for n, marks := range m.right {
		wrong := false
		for i, mark := range marks {
			wrong = wrong || !mark && !slices.Contains(skipped, i)
		}
		if !wrong {
			list = append(list, n)
		}
	}
	return list
}

// clash reports whether the cards are not all right in any choice.
func (m model) clash(list ...int) bool {
	for _, marks := range m.right {
		all := true
		for _, i := range list {
			all = all && marks[i]
		}
		if all {
			return false
		}
	}
	return true
}

// subsets are all increasing lists of numbers below n, the shorter ones first, those of one length in lexicographic order.
func subsets(n int) [][]int {
	var all [][]int
	for mask := range 1 << n {
		var l []int
		for i := range n {
			if mask>>i&1 == 1 {
				l = append(l, i)
			}
		}
		all = append(all, l)
	}
	slices.SortFunc(all, func(a, b []int) int {
		if len(a) != len(b) {
			return len(a) - len(b)
		}
		return slices.Compare(a, b)
	})
	return all
}

// rects are all rectangles of the grid.
func rects(s storm.Storm) []storm.Rect {
	var list []storm.Rect
	for x := range s.Wide {
		for y := range s.High {
			for p := x; p < s.Wide; p++ {
				for q := y; q < s.High; q++ {
					list = append(list, rect(to(x, p), to(y, q)))
				}
			}
		}
	}
	return list
}

// hasTruth asks the package whether the storm has a truth.
func hasTruth(t *testing.T, s storm.Storm) bool {
	t.Helper()
	_, e := storm.Bounds(s)
	if e != api.OK && e != api.ErrFalse {
		t.Errorf("Bounds of %v: %v", s, e)
	}
	return e == api.OK
}

// storms are valid storms made by a fixed rule: most cards report what is so in one of the truths.
func storms(seed uint64, count int) []storm.Storm {
	r := rand.New(rand.NewPCG(seed, 7))
	var list []storm.Storm
	for len(list) < count {
		if s := someStorm(r); len(choices(s)) <= 80 {
			list = append(list, s)
		}
	}
	return list
}

// someRange has the number, and is from low to high.
func someRange(r *rand.Rand, n, low, high int) storm.Range {
	width := []int{0, 0, 0, 1, 1, 2, 9}
	return to(max(low, n-width[r.IntN(len(width))]), min(high, n+width[r.IntN(len(width))]))
}

func someStorm(r *rand.Rand) storm.Storm {
	s := storm.Storm{Wide: 2 + r.IntN(5), High: 1 + r.IntN(5), Fall: r.IntN(5)}
	so := storm.Truth{A: r.IntN(s.High), B: r.IntN(s.High), Half: r.IntN(3), Peak: 1 + r.IntN(9)}
	s.A = someRange(r, so.A, 0, s.High-1)
	s.B = someRange(r, so.B, 0, s.High-1)
	s.Half = someRange(r, so.Half, 0, 3)
	s.Peak = someRange(r, so.Peak, 1, 9)
	columns := sky(s, so)
	for range r.IntN(7) {
		s.Cards = append(s.Cards, someCard(r, columns))
	}
	return s
}

func someCard(r *rand.Rand, columns [][]int) storm.Card {
	x, y := r.IntN(len(columns)), r.IntN(len(columns[0]))
	size := columns[x][y]
	if r.IntN(4) == 0 {
		size = r.IntN(10)
	}
	c := storm.Card{X: someRange(r, x, 0, min(len(columns)-1, x+1)), Y: someRange(r, y, max(0, y-1), len(columns[0])-1), Hail: size > 0}
	if c.Hail {
		c.Size = someRange(r, size, 0, 9)
	}
	return c
}

// inside reports whether the first range is a part of the second one.
func inside(a, b storm.Range) bool { return a.Lo >= b.Lo && a.Hi <= b.Hi }

func has(r storm.Range, n int) bool { return n >= r.Lo && n <= r.Hi }

// common reports whether the lists have an element in common.
func common(a, b []int) bool {
	return slices.ContainsFunc(a, func(x int) bool { return slices.Contains(b, x) })
}
