package lists_test

import (
	"slices"
	"testing"

	"hailstone/lists"
)

func ints(l ...int) []int { return l }

func TestEach(t *testing.T) {
	even := func(n int) bool { return n%2 == 0 }
	for _, x := range []struct {
		list []int
		want bool
	}{{nil, true}, {ints(), true}, {ints(2), true}, {ints(3), false}, {ints(2, 4, 6), true}, {ints(1, 4, 6), false}, {ints(2, 4, 7), false}} {
		if is := lists.Each(x.list, even); is != x.want {
			t.Errorf("Each of %v: %v", x.list, is)
		}
	}
	if !lists.Each([]string{"a", "b"}, func(s string) bool { return s < "c" }) {
		t.Errorf("Each of strings")
	}
}

func TestRises(t *testing.T) {
	for _, x := range []struct {
		list []int
		want bool
	}{{nil, true}, {ints(), true}, {ints(-7), true}, {ints(1, 2), true}, {ints(2, 2), false}, {ints(2, 1), false}, {ints(-1, 0, 5, 6), true}, {ints(0, 0, 5, 6), false}, {ints(-1, 0, 5, 5), false}, {ints(-1, 5, 0, 6), false}} {
		if is := lists.Rises(x.list); is != x.want {
			t.Errorf("Rises of %v: %v", x.list, is)
		}
	}
	if !lists.Rises([]string{"a", "b"}) || lists.Rises([]string{"b", "a"}) {
		t.Errorf("Rises of strings")
	}
}

func TestMinimum(t *testing.T) {
	for _, x := range []struct {
		list []int
		want int
	}{{nil, 0}, {ints(5), 5}, {ints(-5), -5}, {ints(3, 1, 2), 1}, {ints(1, 2, 3), 1}, {ints(3, 2, 1), 1}, {ints(4, -1, -1), -1}} {
		if n := lists.Minimum(x.list...); n != x.want {
			t.Errorf("Minimum of %v: %d", x.list, n)
		}
	}
}

func TestWithout(t *testing.T) {
	for _, x := range []struct{ list, out, want []int }{
		{nil, nil, nil},
		{nil, ints(0), nil},
		{ints(7), nil, ints(7)},
		{ints(7), ints(), ints(7)},
		{ints(7), ints(0), nil},
		{ints(7, 8, 9), ints(0), ints(8, 9)},
		{ints(7, 8, 9), ints(1), ints(7, 9)},
		{ints(7, 8, 9), ints(2), ints(7, 8)},
		{ints(7, 8, 9), ints(0, 2), ints(8)},
		{ints(7, 8, 9), ints(2, 1, 2), ints(7)},
		{ints(7, 8, 9), ints(0, 1, 2), nil},
		{ints(7, 8, 9), ints(-1, 3, 7, 8, 9), ints(7, 8, 9)},
	} {
		list, out := slices.Clone(x.list), slices.Clone(x.out)
		rest := lists.Without(list, out)
		if !slices.Equal(rest, x.want) {
			t.Errorf("%v without %v: %v, not %v", x.list, x.out, rest, x.want)
		}
		for i := range rest {
			rest[i] = 77
		}
		if !slices.Equal(list, x.list) || !slices.Equal(out, x.out) {
			t.Errorf("%v without %v: written to", x.list, x.out)
		}
	}
}

func TestIncreasing(t *testing.T) {
	for _, x := range []struct {
		n, size int
		want    [][]int
	}{
		{0, 0, [][]int{{}}},
		{0, 1, nil},
		{3, 0, [][]int{{}}},
		{3, 1, [][]int{{0}, {1}, {2}}},
		{3, 2, [][]int{{0, 1}, {0, 2}, {1, 2}}},
		{3, 3, [][]int{{0, 1, 2}}},
		{3, 4, nil},
		{4, 2, [][]int{{0, 1}, {0, 2}, {0, 3}, {1, 2}, {1, 3}, {2, 3}}},
	} {
		var got [][]int
		for l := range lists.Increasing(x.n, x.size) {
			got = append(got, slices.Clone(l))
		}
		if !slices.EqualFunc(got, x.want, slices.Equal[[]int]) {
			t.Errorf("%d of %d: %v, not %v", x.size, x.n, got, x.want)
		}
		for range lists.Increasing(x.n, x.size) {
			break
		}
	}
}

func TestShortest(t *testing.T) {
	has := func(numbers ...int) func([]int) bool {
		return func(list []int) bool {
			return lists.Each(numbers, func(n int) bool { return slices.Contains(list, n) })
		}
	}
	sums := func(sum int) func([]int) bool {
		return func(list []int) bool {
			rest := sum
			for _, n := range list {
				rest -= n
			}
			return rest == 0
		}
	}
	for _, x := range []struct {
		name   string
		n      int
		passes func([]int) bool
		want   []int
	}{
		{"no numbers", 0, has(), nil},
		{"no list of no numbers", 0, has(0), nil},
		{"the empty list", 4, has(), nil},
		{"one number", 4, has(2), ints(2)},
		{"the first one", 4, func(list []int) bool { return len(list) == 1 }, ints(0)},
		{"two numbers", 4, has(3, 1), ints(1, 3)},
		{"all numbers", 4, has(0, 1, 2, 3), ints(0, 1, 2, 3)},
		{"none passes", 4, has(4), nil},
		{"the shortest one", 6, sums(5), ints(5)},
		{"the lexicographically first one", 6, sums(6), ints(1, 5)},
		{"three numbers", 6, sums(10), ints(1, 4, 5)},
	} {
		if l := lists.Shortest(x.n, x.passes); !slices.Equal(l, x.want) {
			t.Errorf("%s: %v, not %v", x.name, l, x.want)
		}
	}
}

// TestOrderOfLists checks that all lists are tried, each once, the shorter ones first, those of one length in lexicographic order.
func TestOrderOfLists(t *testing.T) {
	var tried [][]int
	found := lists.Shortest(3, func(list []int) bool {
		tried = append(tried, slices.Clone(list))
		return false
	})
	want := [][]int{{}, {0}, {1}, {2}, {0, 1}, {0, 2}, {1, 2}, {0, 1, 2}}
	if len(found) != 0 || !slices.EqualFunc(tried, want, slices.Equal[[]int]) {
		t.Errorf("%v, %v", tried, found)
	}
}

// TestMemory checks that the list that is found is not written over.
func TestMemory(t *testing.T) {
	var last []int
	found := lists.Shortest(5, func(list []int) bool {
		last = list
		return len(list) == 2
	})
	last[0], last[1] = 77, 77
	if !slices.Equal(found, ints(0, 1)) {
		t.Errorf("%v", found)
	}
}

func to(low, high int) lists.Range { return lists.Range{Lo: low, Hi: high} }

func TestChoices(t *testing.T) {
	for _, x := range []struct {
		name   string
		ranges []lists.Range
		want   [][]int
	}{
		{"no ranges", nil, [][]int{{}}},
		{"an empty list", []lists.Range{}, [][]int{{}}},
		{"one number", []lists.Range{to(7, 7)}, [][]int{{7}}},
		{"one range", []lists.Range{to(-1, 1)}, [][]int{{-1}, {0}, {1}}},
		{"two ranges", []lists.Range{to(2, 3), to(5, 7)}, [][]int{{2, 5}, {2, 6}, {2, 7}, {3, 5}, {3, 6}, {3, 7}}},
		{"a single number in the middle", []lists.Range{to(0, 1), to(4, 4), to(0, 1)}, [][]int{{0, 4, 0}, {0, 4, 1}, {1, 4, 0}, {1, 4, 1}}},
	} {
		var got [][]int
		for l := range lists.Choices(x.ranges) {
			got = append(got, slices.Clone(l))
		}
		if !slices.EqualFunc(got, x.want, slices.Equal[[]int]) || lists.Number(x.ranges) != len(x.want) {
			t.Errorf("%s: %v, %d, not %v", x.name, got, lists.Number(x.ranges), x.want)
		}
	}
}

// TestSomeChoices checks that a range over the choices can be left, and begun again.
func TestSomeChoices(t *testing.T) {
	ranges := []lists.Range{to(0, 9), to(0, 9), to(0, 9)}
	for stop := 1; stop <= 1000; stop *= 10 {
		for range 2 {
			number := 0
			for range lists.Choices(ranges) {
				number++
				if number == stop {
					break
				}
			}
			if number != stop {
				t.Errorf("%d choices, not %d", number, stop)
			}
		}
	}
}
