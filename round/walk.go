package round

import (
	"iter"
	"slices"

	"hailstone/lists"
)

func (p Point) distance(q Point) int {
	return max(p.X-q.X, q.X-p.X) + max(p.Y-q.Y, q.Y-p.Y)
}

// walks yields all walks of the set of farms, with their lengths. A walk is written over by the next one.
func (r Round) walks(s set) iter.Seq2[[]int, int] {
	return func(yield func([]int, int) bool) {
		var walk []int
		var walkOn func(from Point, left set, length int) bool
		walkOn = func(from Point, left set, length int) bool {
			if left == (set{}) {
				return yield(walk, length+from.distance(r.Home))
			}
			for farm, f := range r.Farms {
				if !left[farm] {
					continue
				}
				walk = append(walk, farm)
				if !walkOn(f.At, left.without(farm), length+from.distance(f.At)) {
					return false
				}
				walk = walk[:len(walk)-1]
			}
			return true
		}
		walkOn(r.Home, s, 0)
	}
}

// length is the minimum length of a walk of the set.
func (w work) length(s set) int {
	if length, known := w.lengths[s]; known {
		return length
	}
	var lengths []int
	for _, length := range w.walks(s) {
		lengths = append(lengths, length)
	}
	least := lists.Minimum(lengths...)
	w.lengths[s] = least
	return least
}

func (w work) canWalk(s set) bool { return w.length(s) <= w.Miles }

// shortestWalk returns a walk of the set with the minimum length, and this length.
func (w work) shortestWalk(s set) (shortest []int, least int) {
	least = w.length(s)
	for walk, length := range w.walks(s) {
		if length == least {
			shortest = slices.Clone(walk)
			break
		}
	}
	return shortest, least
}
