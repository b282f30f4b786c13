package lists

import "iter"

// Range has all whole numbers from Lo to Hi, both included.
type Range struct{ Lo, Hi int }

func (r Range) size() int { return r.Hi - r.Lo + 1 }

// Number is how many choices of one number of each range there are.
func Number(ranges []Range) int {
	product := 1
	for _, r := range ranges {
		product *= r.size()
	}
	return product
}

// Choices yields every choice of one number of each range, in lexicographic order. A choice is written over by the next one.
func Choices(ranges []Range) iter.Seq[[]int] {
	return func(yield func([]int) bool) {
		chosen := make([]int, len(ranges))
		var choose func(at int) bool
		choose = func(at int) bool {
			if at == len(ranges) {
				return yield(chosen)
			}
			for n := range ranges[at].size() {
				chosen[at] = ranges[at].Lo + n
				if !choose(at + 1) {
					return false
				}
			}
			return true
		}
		choose(0)
	}
}
