package parcel

import "hailstone/api"

// most is the greatest number of parcels that there can be: each Split makes one more.
const most = api.MaxParcelParcels + api.MaxParcelEntries

// tenure says who has a parcel, with its value.
type tenure struct{ owner, value int }

// plot is the state of one parcel.
type plot struct {
	tenure
	there, harvested bool
	sown             int
}

// states are those of all numbers of parcels.
type states [most]plot

// standing reports whether something can still happen to the parcel.
func (p plot) standing() bool { return p.there && !p.harvested }

func (p plot) covered(day int) bool { return p.standing() && p.sown <= day }

func (p plot) holding(day int) Holding {
	if !p.there {
		return Holding{}
	}
	return Holding{There: true, Covered: p.covered(day), Owner: p.owner, Value: p.value}
}

func (s *states) worth(owner, day int) int {
	sum := 0
	for _, p := range s {
		if p.owner == owner && p.covered(day) {
			sum += p.value
		}
	}
	return sum
}

// kind says what the entries of a kind do: happen changes the states, or returns false if the entry is not possible.
type kind struct {
	happen func(*states, event) bool
}

func kindOf(number int) kind {
	kinds := [...]kind{
		Sell:    {(*states).sell},
		Split:   {(*states).split},
		Swap:    {(*states).swap},
		Harvest: {(*states).harvest},
	}
	return kinds[number]
}

func (s *states) sell(e event) bool {
	p := &s[e.Parcel]
	if !p.standing() || p.owner != e.From {
		return false
	}
	p.owner = e.To
	return true
}

func (s *states) split(e event) bool {
	p := &s[e.Parcel]
	if !p.standing() || p.value <= e.Part {
		return false
	}
	p.value -= e.Part
	made := *p
	made.value = e.Part
	s[e.makes] = made
	return true
}

func (s *states) swap(e event) bool {
	p, q := &s[e.Parcel], &s[e.Other]
	if !p.standing() || !q.standing() || p.owner == q.owner {
		return false
	}
	p.owner, q.owner = q.owner, p.owner
	return true
}

func (s *states) harvest(e event) bool {
	p := &s[e.Parcel]
	if !p.standing() || p.sown > e.on {
		return false
	}
	p.harvested = true
	return true
}
