package call

import "hailstone/api"

// perMember has a number for each member. Beyond the members that there are it has 0.
type perMember [api.MaxCallMembers]int

func (p perMember) sum() int {
	sum := 0
	for _, n := range p {
		sum += n
	}
	return sum
}

func (p perMember) plus(more perMember) perMember {
	for i, n := range more {
		p[i] += n
	}
	return p
}

// flags are on some of the members.
type flags [api.MaxCallMembers]bool

func (f flags) without(others flags) flags {
	for i, other := range others {
		f[i] = f[i] && !other
	}
	return f
}

// share is a member's part of a need, rounded down, with the remainder of its division.
type share struct{ pence, remainder int }

// division is a need that is divided by units.
type division struct {
	shares [api.MaxCallMembers]share
	having map[share]int // how many members have such a share
}

// divide returns what each member pays of the need, by the units of those who share it; the others have none.
func divide(need int, units perMember) perMember {
	var pays perMember
	d := division{having: map[share]int{}}
	all := units.sum()
	for i, n := range units {
		mine := share{pence: need * n / all, remainder: need * n % all}
		d.shares[i] = mine
		d.having[mine]++
		pays[i] = mine.pence
	}
	left := need - pays.sum()
	for i := range pays {
		if d.before(i) < left {
			pays[i]++
		}
	}
	return pays
}

// before is how many members come before this one when pence are left over. Who has no remainder comes after more members than there are pence.
func (d division) before(member int) int {
	mine := d.shares[member]
	before := 0
	for other, number := range d.having {
		if other.remainder > mine.remainder {
			before += number
		}
	}
	for _, other := range d.shares[:member] {
		if other.remainder == mine.remainder {
			before++
		}
	}
	return before
}

// outcome is what comes of a need.
type outcome struct {
	need  int
	calls perMember
}

func (o outcome) needed() int { return o.need }

func (o outcome) short() int { return o.need - o.calls.sum() }

// with is the outcome in which members pay so much more.
func (o outcome) with(more perMember) outcome {
	o.calls = o.calls.plus(more)
	return o
}

// share shares the need by those who are asked.
func (w work) share(need int) outcome {
	o := outcome{need: need}
	sharing := w.asked
rounds:
	for sharing != (flags{}) {
		shares := divide(o.short(), w.units(sharing))
		able := w.able(sharing, shares)
		if able == sharing {
			o = o.with(shares)
			break rounds
		}
		o = o.with(w.mosts(sharing.without(able)))
		sharing = able
	}
	return o
}

// able flags those who share whose share is not greater than their Most.
func (w work) able(sharing flags, shares perMember) flags {
	for i, m := range w.Members {
		sharing[i] = sharing[i] && shares[i] <= m.Most
	}
	return sharing
}

func (w work) units(of flags) perMember { return w.numbers(of, Member.units) }

func (w work) mosts(of flags) perMember { return w.numbers(of, Member.most) }

// numbers has a number of each member that is flagged.
func (w work) numbers(of flags, number func(Member) int) perMember {
	var numbers perMember
	for i, m := range w.Members {
		if of[i] {
			numbers[i] = number(m)
		}
	}
	return numbers
}

func (m Member) units() int { return m.Sum * m.Class }

func (m Member) most() int { return m.Most }
