// Package lists has what several layers do with lists: it tests their elements and whether they rise, leaves elements out, yields increasing lists of numbers, finds the shortest one that passes a test, and chooses numbers of ranges.
package lists

import (
	"cmp"
	"iter"
	"slices"
)

// Each reports whether all elements of the list pass the test.
func Each[T any](list []T, passes func(T) bool) bool {
	return !slices.ContainsFunc(list, func(x T) bool { return !passes(x) })
}

// Rises reports whether each element of the list is greater than the one before it.
func Rises[T cmp.Ordered](list []T) bool {
	for i := 1; i < len(list); i++ {
		if list[i] <= list[i-1] {
			return false
		}
	}
	return true
}

// Minimum returns the least one of the numbers, and 0 if there are none.
func Minimum(numbers ...int) int {
	if len(numbers) == 0 {
		return 0
	}
	least := numbers[0]
	for _, n := range numbers {
		if n < least {
			least = n
		}
	}
	return least
}

// Without returns the elements of the list but for those with these indexes.
func Without[T any](list []T, out []int) []T {
	var rest []T
	for i, x := range list {
		if !slices.Contains(out, i) {
			rest = append(rest, x)
		}
	}
	return rest
}

// Shortest returns the shortest increasing list of numbers below n that passes the test; of several ones, the one that is lexicographically first.
func Shortest(n int, passes func([]int) bool) []int {
	var found []int
search:
	for size := range n + 1 {
		for list := range Increasing(n, size) {
			if passes(list) {
				found = slices.Clone(list)
				break search
			}
		}
	}
	return found
}

// Increasing yields all increasing lists of some of the numbers below n, each with as many elements as size says, in lexicographic order. A list is written over by the next one.
func Increasing(n, size int) iter.Seq[[]int] {
	return func(yield func([]int) bool) {
		list := make([]int, size)
		var fill func(at, from int) bool
		fill = func(at, from int) bool {
			if at == size {
				return yield(list)
			}
			for x := from; x < n; x++ {
				list[at] = x
				if !fill(at+1, x+1) {
					return false
				}
			}
			return true
		}
		fill(0, 0)
	}
}
