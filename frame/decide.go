package frame

import "hailstone/lists"

// sides has the truths of a survey, by whether their share is at least a part.
type sides struct {
	above, below []hits
}

func (w work) sides(part int) sides {
	var both sides
	for h := range w.truths() {
		if w.share(h) >= part {
			both.above = append(both.above, h)
		} else {
			both.below = append(both.below, h)
		}
	}
	return both
}

// decide reports whether the places decide: no truth above the part looks there like one below it.
func (s sides) decide(places []int) bool {
	seen := map[hits]bool{}
	for _, h := range s.above {
		seen[h.at(places)] = true
	}
	return lists.Each(s.below, func(h hits) bool { return !seen[h.at(places)] })
}

// at returns the hits of these places alone.
func (h hits) at(places []int) hits {
	var only hits
	for _, place := range places {
		only[place] = h[place]
	}
	return only
}
