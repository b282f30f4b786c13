package storm

import "iter"

// distance is how far the place is from the middle of the path, counted in parts of a row of which Wide - 1 make a row.
func (s Storm) distance(t Truth, x, y int) int {
	last := s.Wide - 1
	d := last*y - (t.A*(last-x) + t.B*x)
	return max(d, -d)
}

// hits reports whether the place is in the path.
func (s Storm) hits(t Truth, x, y int) bool {
	return s.distance(t, x, y) <= (s.Wide-1)*t.Half
}

// size is that of the stones at the place.
func (s Storm) size(t Truth, x, y int) int {
	if !s.hits(t, x, y) {
		return 0
	}
	return max(1, t.Peak-s.Fall*(s.distance(t, x, y)/(s.Wide-1)))
}

// isRight reports whether the card is right. A card without hail has the size 0, which is that of a place outside the path.
func (s Storm) isRight(c Card, t Truth) bool {
	for x, y := range c.rect().places() {
		if s.hits(t, x, y) == c.Hail && c.Size.has(s.size(t, x, y)) {
			return true
		}
	}
	return false
}

// reaches reports whether some place of the rectangle is in the path, or, if in is false, is not in it.
func (s Storm) reaches(t Truth, r Rect, in bool) bool {
	for x, y := range r.places() {
		if s.hits(t, x, y) == in {
			return true
		}
	}
	return false
}

func (s Storm) grid() Rect {
	return Rect{X: Range{Hi: s.Wide - 1}, Y: Range{Hi: s.High - 1}}
}

func (c Card) rect() Rect { return Rect{X: c.X, Y: c.Y} }

// places yields all places, by x, and those of one x by y.
func (r Rect) places() iter.Seq2[int, int] {
	return func(yield func(x, y int) bool) {
		for x := range r.X.numbers() {
			for y := range r.Y.numbers() {
				if !yield(x, y) {
					return
				}
			}
		}
	}
}

func (r Range) numbers() iter.Seq[int] {
	return func(yield func(int) bool) {
		for n := range r.count() {
			if !yield(r.Lo + n) {
				return
			}
		}
	}
}
