package round_test

import (
	"fmt"
	"iter"
	"math/rand/v2"
	"slices"
	"testing"

	"hailstone/api"
	"hailstone/round"
)

func ints(l ...int) []int { return l }

func point(x, y int) round.Point { return round.Point{X: x, Y: y} }

func to(low, high int) round.Range { return round.Range{Lo: low, Hi: high} }

func farm(x, y, first, last int) round.Farm {
	return round.Farm{At: point(x, y), Days: to(first, last)}
}

func visit(adjuster, day int) round.Visit { return round.Visit{Adjuster: adjuster, Day: day} }

// chapter is the round of the chapter's examples, with so many of its farms.
func chapter(farms int) round.Round {
	all := []round.Farm{farm(3, 0, 0, 1), farm(3, 3, 0, 0), farm(0, 6, 0, 1), farm(5, 0, 1, 1)}
	return round.Round{Adjusters: 1, Last: 1, Miles: 12, Farms: all[:farms:farms]}
}

// full has as much of everything as there can be, and its farms have all days.
func full() round.Round {
	return round.Round{Adjusters: 3, Last: 5, Miles: 30, Home: point(9, 9), Farms: []round.Farm{
		farm(0, 5, 0, 5), farm(5, 0, 0, 5), farm(9, 0, 0, 5), farm(1, 3, 0, 5), farm(0, 9, 0, 5),
	}}
}

func clone(r round.Round) round.Round {
	r.Farms = slices.Clone(r.Farms)
	return r
}

func same(a, b round.Round) bool {
	return slices.Equal(a.Farms, b.Farms) && fmt.Sprint(a) == fmt.Sprint(b)
}

// only is the round with the listed farms, in their order, and no others.
func only(r round.Round, farms ...int) round.Round {
	var kept []round.Farm
	for _, n := range farms {
		kept = append(kept, r.Farms[n])
	}
	r.Farms = kept
	return r
}

// but are the numbers of the farms that are not listed.
func but(r round.Round, farms ...int) []int {
	var rest []int
	for n := range r.Farms {
		if !slices.Contains(farms, n) {
			rest = append(rest, n)
		}
	}
	return rest
}

// with is the round with one more farm, the last one.
func with(r round.Round, f round.Farm) round.Round {
	r.Farms = append(slices.Clone(r.Farms), f)
	return r
}

// on is the round in which the farm has this day alone.
func on(r round.Round, n, day int) round.Round {
	r = clone(r)
	r.Farms[n].Days = to(day, day)
	return r
}

// orders are all orders of the list.
func orders(list []int) [][]int {
	if len(list) == 0 {
		return [][]int{nil}
	}
	var all [][]int
	for i, first := range list {
		for _, rest := range orders(slices.Delete(slices.Clone(list), i, i+1)) {
			all = append(all, append(ints(first), rest...))
		}
	}
	return all
}

// apart is the distance of two points, counted step by step.
func apart(a, b round.Point) int {
	steps := 0
	for ; a.X < b.X; a.X++ {
		steps++
	}
	for ; a.X > b.X; a.X-- {
		steps++
	}
	for ; a.Y < b.Y; a.Y++ {
		steps++
	}
	for ; a.Y > b.Y; a.Y-- {
		steps++
	}
	return steps
}

// lengthOf is the length of a walk of the farms in the order of the list.
func lengthOf(r round.Round, walk []int) int {
	points := []round.Point{r.Home}
	for _, n := range walk {
		points = append(points, r.Farms[n].At)
	}
	points = append(points, r.Home)
	length := 0
	for i := range len(points) - 1 {
		length += apart(points[i], points[i+1])
	}
	return length
}

// leastOf is the minimum length of all walks of the farms.
func leastOf(r round.Round, farms []int) int {
	var lengths []int
	for _, walk := range orders(farms) {
		lengths = append(lengths, lengthOf(r, walk))
	}
	return slices.Min(lengths)
}

// bits are the numbers of the bits that the mask has.
func bits(mask int) []int {
	var list []int
	for i := range 31 {
		if mask>>i&1 == 1 {
			list = append(list, i)
		}
	}
	return list
}

// walkable says for each mask whether the set of the farms of its bits can be walked.
func walkable(r round.Round) []bool {
	var all []bool
	for mask := range 1 << len(r.Farms) {
		all = append(all, leastOf(r, bits(mask)) <= r.Miles)
	}
	return all
}

// choices is how many lists there are with a visit of each farm.
func choices(r round.Round) int {
	all := 1
	for _, f := range r.Farms {
		all *= r.Adjusters * (f.Days.Hi - f.Days.Lo + 1)
	}
	return all
}

// lists yields all lists with a visit of each farm on one of its days: they are counted like the digits of a number.
func lists(r round.Round) iter.Seq[[]round.Visit] {
	return func(yield func([]round.Visit) bool) {
		for code := range choices(r) {
			var list []round.Visit
			for _, f := range r.Farms {
				days := f.Days.Hi - f.Days.Lo + 1
				list = append(list, visit(code%r.Adjusters, f.Days.Lo+code/r.Adjusters%days))
				code /= r.Adjusters * days
			}
			if !yield(list) {
				return
			}
		}
	}
}

// plans yields all plans of the round.
func plans(r round.Round) iter.Seq[[]round.Visit] {
	return func(yield func([]round.Visit) bool) {
		can := walkable(r)
		for list := range lists(r) {
			if allCan(can, list) && !yield(list) {
				return
			}
		}
	}
}

// allCan reports whether all sets of farms with the same visit can be walked.
func allCan(can []bool, list []round.Visit) bool {
	masks := map[round.Visit]int{}
	for n, v := range list {
		masks[v] |= 1 << n
	}
	for _, mask := range masks {
		if !can[mask] {
			return false
		}
	}
	return true
}

// isPlan reports whether the list is one of all plans.
func isPlan(r round.Round, list []round.Visit) bool {
	for plan := range plans(r) {
		if slices.Equal(plan, list) {
			return true
		}
	}
	return false
}

func planned(r round.Round) bool {
	for range plans(r) {
		return true
	}
	return false
}

// fewestOf is the fewest adjusters, and 0 if there is no such number.
func fewestOf(r round.Round) int {
	for r.Adjusters = 1; r.Adjusters <= 3; r.Adjusters++ {
		if planned(r) {
			return r.Adjusters
		}
	}
	return 0
}

// daysOf are the days on which the farm is visited in some plan.
func daysOf(r round.Round, n int) []int {
	var days []int
	for plan := range plans(r) {
		if !slices.Contains(days, plan[n].Day) {
			days = append(days, plan[n].Day)
		}
	}
	slices.Sort(days)
	return days
}

func togetherOf(r round.Round, a, b int) bool {
	for plan := range plans(r) {
		if plan[a].Day == plan[b].Day && plan[a].Adjuster == plan[b].Adjuster {
			return true
		}
	}
	return false
}

// subsets are all increasing lists of numbers below n, the shorter ones first, those of one length in lexicographic order.
func subsets(n int) [][]int {
	var all [][]int
	for mask := range 1 << n {
		all = append(all, bits(mask))
	}
	slices.SortFunc(all, func(a, b []int) int {
		if len(a) != len(b) {
			return len(a) - len(b)
		}
		return slices.Compare(a, b)
	})
	return all
}

// leaveOf is the smallest set: the first list of all without which there is a plan.
func leaveOf(r round.Round) []int {
	for _, list := range subsets(len(r.Farms)) {
		if planned(only(r, but(r, list...)...)) {
			return list
		}
	}
	return ints(-1)
}

// proofOf is the smallest proof: the first list of all for which there is no plan.
func proofOf(r round.Round) []int {
	for _, list := range subsets(len(r.Farms)) {
		if !planned(only(r, list...)) {
			return list
		}
	}
	return ints(-1)
}

// hasPlan asks the package whether the round has a plan.
func hasPlan(t *testing.T, r round.Round) bool {
	t.Helper()
	_, e := round.Show(r)
	if e != api.OK && e != api.ErrShort {
		t.Fatalf("Show of %v: %v", r, e)
	}
	return e == api.OK
}

// left asks the package for the smallest set, which there must be.
func left(t *testing.T, r round.Round) []int {
	t.Helper()
	l, e := round.Leave(r)
	if e != api.OK {
		t.Fatalf("Leave of %v: %v", r, e)
	}
	return l
}

// daysFrom asks the package for the days of a farm, of which there are none if the round has no plan.
func daysFrom(t *testing.T, r round.Round, n int) []int {
	t.Helper()
	l, e := round.Days(r, n)
	if e != api.OK && e != api.ErrShort || (e == api.OK) != (len(l) > 0) {
		t.Fatalf("Days of %v, %d: %v, %v", r, n, l, e)
	}
	return l
}

func togetherFrom(t *testing.T, r round.Round, a, b int) bool {
	t.Helper()
	is, e := round.Together(r, a, b)
	if e != api.OK && e != api.ErrShort {
		t.Fatalf("Together of %v, %d, %d: %v", r, a, b, e)
	}
	return is
}

// rounds are valid rounds with at most so many choices, made by a fixed rule.
func rounds(seed uint64, number, most int) []round.Round {
	rd := rand.New(rand.NewPCG(seed, 6))
	var all []round.Round
	for len(all) < number {
		if r := someRound(rd); choices(r) <= most {
			all = append(all, r)
		}
	}
	return all
}

func someRound(rd *rand.Rand) round.Round {
	r := round.Round{Adjusters: 1 + rd.IntN(4)/3, Last: ints(0, 1, 1, 1, 2)[rd.IntN(5)], Miles: 6 + rd.IntN(15), Home: point(rd.IntN(10), rd.IntN(10))}
	switch rd.IntN(6) {
	case 0:
		r.Adjusters, r.Last = 1+rd.IntN(3), rd.IntN(6)
	case 1:
		r.Miles = rd.IntN(31)
	}
	for range 1 + max(rd.IntN(5), rd.IntN(5), rd.IntN(5)) {
		r.Farms = append(r.Farms, someFarm(rd, r))
	}
	return r
}

// someFarm is mostly so near to the home that it can be walked to.
func someFarm(rd *rand.Rand, r round.Round) round.Farm {
	f := round.Farm{At: point(rd.IntN(10), rd.IntN(10))}
	if rd.IntN(8) > 0 {
		f.At = point(near(rd, r.Home.X, r.Miles/4), near(rd, r.Home.Y, r.Miles/4))
	}
	first := rd.IntN(r.Last + 1)
	f.Days = to(first, min(r.Last, first+rd.IntN(3)))
	return f
}

func near(rd *rand.Rand, n, most int) int { return min(9, max(0, n+rd.IntN(2*most+1)-most)) }

// mirrored has X of all points from the other edge.
func mirrored(r round.Round) round.Round {
	r = clone(r)
	r.Home.X = 9 - r.Home.X
	for i := range r.Farms {
		r.Farms[i].At.X = 9 - r.Farms[i].At.X
	}
	return r
}

// subset reports whether all numbers of the first list are in the second one.
func subset(a, b []int) bool {
	return !slices.ContainsFunc(a, func(n int) bool { return !slices.Contains(b, n) })
}

// everything is what all calls return of the round, as a text, but for which walk or plan of several.
func everything(r round.Round) string {
	_, e := round.Show(r)
	fewest, f := round.Fewest(r)
	text := fmt.Sprint(round.CheckRound(r), e, fewest, f)
	for n := range len(r.Farms) + 1 {
		l, e := round.Days(r, n)
		text += fmt.Sprint(l, e)
		for m := range len(r.Farms) + 1 {
			is, e := round.Together(r, n, m)
			text += fmt.Sprint(is, e)
		}
	}
	for _, list := range subsets(len(r.Farms)) {
		_, length, e := round.Walk(r, list)
		text += fmt.Sprint(length, e, round.Prove(r, list))
	}
	l, e := round.Leave(r)
	k, f := round.Proof(r)
	return text + fmt.Sprint(l, e, k, f)
}
