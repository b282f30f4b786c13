package growth

import "hailstone/api"

// damages has the damage at the end of each week. After the week Last nothing changes any more.
type damages [api.MaxGrowthLast + 1]int

// plant is a truth with the crop of its field.
type plant struct {
	Truth
	crop int
}

// course is a truth with the damages that follow from it.
type course struct {
	Truth
	damages
}

// grow returns the damages of the plant. What is old does not matter to them.
func (s Season) grow(p plant) damages {
	var all damages
	damage := 0
	for week := range all {
		if week == p.Week {
			damage = p.Damage
		} else if week <= s.Last {
			damage -= damage * s.Rules[p.crop][week] / hundred
		}
		all[week] = damage
	}
	return all
}

// follow returns the course of a truth of the field, whether the visits are right in it or not; there is none if something is not valid.
func follow(s Season, field int, t Truth) (course, bool) {
	if CheckSeason(s) != api.OK || !s.hasField(field) || !s.Fields[field].isChoice(t) {
		return course{}, false
	}
	return course{Truth: t, damages: s.grow(plant{Truth: t, crop: s.Fields[field].Crop})}, true
}

func (c course) week() int { return c.Week }

func (c course) damage() int { return c.Damage }

func (c course) old() int { return c.Old }

// harvest is the damage at the end of the week Last.
func (d damages) harvest() int { return d[len(d)-1] }

// seen is what is seen at the end of the week.
func (c course) seen(week int) int { return min(c.Old+c.damages[week], hundred) }

// decides reports whether each number that can be seen at the end of the week says if the harvest is above the limit.
func decides(all []course, week, limit int) bool {
	above := map[int]bool{}
	for _, c := range all {
		is := c.harvest() > limit
		if other, known := above[c.seen(week)]; known && other != is {
			return false
		}
		above[c.seen(week)] = is
	}
	return true
}
