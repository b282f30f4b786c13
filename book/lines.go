package book

import (
	"slices"
	"strconv"
	"strings"

	"hailstone/api"
	"hailstone/lists"
)

// longest is how many bytes a line may have.
type longest int

func (l longest) allows(line string) bool { return len(line) <= int(l) }

func isSession(lines []string) bool {
	return len(lines) <= api.MaxBookSession && lists.Each(lines, longest(api.MaxBookLine).allows)
}

// after returns the state after all lines, and the error of each of them.
func (s State) after(lines []string) (State, []api.Errno) {
	var errors []api.Errno
	for _, line := range lines {
		next, e := s.afterLine(line)
		s = next
		errors = append(errors, e)
	}
	return s, errors
}

// afterLine returns the state after the line, which a refused one does not change.
func (s State) afterLine(line string) (next State, e api.Errno) {
	defer func() {
		switch thrown := recover().(type) {
		case nil:
		case api.Errno:
			next, e = s, thrown
		default: // a fault of the program; no call may panic
			next, e = s, api.ErrFail
		}
	}()
	c := change{State: s.clone()}
	c.execute(line)
	return c.State, api.OK
}

// must ends a line with the error, unless all conditions hold.
func must(e api.Errno, conditions ...bool) {
	if slices.Contains(conditions, false) {
		panic(e)
	}
}

// word is the first one of a line. It says how many numbers follow, and what the line does.
type word struct {
	numbers int
	do      func(*change)
}

func words() map[string]word {
	return map[string]word{
		"parcel":  {4, (*change).parcel},
		"sell":    {5, (*change).sell},
		"split":   {4, (*change).split},
		"swap":    {4, (*change).swap},
		"harvest": {3, (*change).harvest},
		"strike":  {1, (*change).strike},
		"days":    {3, (*change).days},
		"sown":    {3, (*change).sown},
		"least":   {1, (*change).least},
		"whole":   {1, (*change).whole},
		"rate":    {3, (*change).rate},
		"hail":    {4, (*change).hail},
		"count":   {3, (*change).count},
		"drop":    {1, (*change).drop},
		"member":  {2, (*change).member},
		"most":    {2, (*change).most},
		"leave":   {1, (*change).leave},
		"treaty":  {2, (*change).treaty},
		"reserve": {1, (*change).reserve},
		"year":    {5, (*change).year},
		"exempt":  {2, (*change).exempt},
		"undo":    {0, (*change).undo},
	}
}

// execute changes the state by the line, or refuses the line.
func (c *change) execute(line string) {
	texts := strings.Split(line, " ")
	w, known := words()[texts[0]]
	must(api.ErrForm, known, len(texts) == 1+w.numbers)
	for _, text := range texts[1:] {
		c.numbers = append(c.numbers, number(text))
	}
	w.do(c)
	c.mustStand()
}

// greatest is the greatest number that a line can have.
const greatest = 9999

// number returns the number that the text is; otherwise the line is none.
func number(text string) int {
	n, e := strconv.Atoi(text)
	must(api.ErrForm, e == nil, n >= 0, n <= greatest, strconv.Itoa(n) == text)
	return n
}
