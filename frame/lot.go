package frame

import (
	"slices"

	"hailstone/api"
)

// draw returns the places of the lot.
func (f Field) draw(l Lot) []int {
	var drawn []int
	x := l.Seed
	for i := range l.Draws {
		x = (api.MaxFrameFactor*x + l.Step + i) % api.MaxFrameModulo
		place := x % f.places()
		for slices.Contains(drawn, place) {
			place = (place + 1) % f.places()
		}
		drawn = append(drawn, place)
	}
	return drawn
}

// foreign returns the counts whose place was not drawn, or was counted before.
func foreign(drawn []int, counts []Count) []int {
	var list []int
	counted := map[int]bool{}
	for i, c := range counts {
		if counted[c.Place] || !slices.Contains(drawn, c.Place) {
			list = append(list, i)
		}
		counted[c.Place] = true
	}
	return list
}
