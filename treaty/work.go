package treaty

import (
	"iter"
	"slices"

	"hailstone/api"
	"hailstone/lists"
)

// perTreaty has a number for each treaty. Beyond the treaties that there are it has 0.
type perTreaty [api.MaxTreatyTreaties]int

// agrees reports whether the reports are right if this is what all treaties pay.
func (p perTreaty) agrees(reports []Report) bool {
	return lists.Each(reports, func(r Report) bool { return r.Paid.has(p[r.Treaty]) })
}

// moment is a loss, with what all treaties paid for those before it.
type moment struct {
	loss int
	paid perTreaty
}

// outcome is what comes of a loss, or of all of them: what all treaties pay, what each one keeps of it, and what the society keeps.
type outcome struct {
	pays, keeps perTreaty
	society     int
}

func (o outcome) net() int { return o.society }

func (o outcome) plus(more outcome) outcome {
	for treaty := range len(o.pays) {
		o.pays[treaty] += more.pays[treaty]
		o.keeps[treaty] += more.keeps[treaty]
	}
	o.society += more.society
	return o
}

// work is a programme at work. It must be valid.
type work struct {
	Programme
	kinds  kinds
	shared map[moment]outcome      // what comes of the losses that were shared so far
	played map[perTreaty][]outcome // what comes of the truths of Losses, by what all treaties pay, whatever is reported
}

func open(p Programme) work {
	return work{Programme: p, kinds: allKinds(), shared: map[moment]outcome{}, played: map[perTreaty][]outcome{}}
}

// playAll opens the programme, and plays all truths of Losses.
func playAll(p Programme) work {
	w := open(p)
	for losses := range p.truths() {
		o := w.play(losses)
		w.played[o.pays] = append(w.played[o.pays], o)
	}
	return w
}

func (p Programme) ranges() []lists.Range {
	var ranges []lists.Range
	for _, r := range p.Losses {
		ranges = append(ranges, lists.Range(r))
	}
	return ranges
}

// truths yields all truths of Losses. A truth is written over by the next one.
func (p Programme) truths() iter.Seq[[]int] { return lists.Choices(p.ranges()) }

// play returns what comes of the losses, which come one after the other.
func (w work) play(losses []int) outcome {
	var all outcome
	for _, loss := range losses {
		all = all.plus(w.share(moment{loss: loss, paid: all.pays}))
	}
	return all
}

func (w work) share(m moment) outcome {
	if o, known := w.shared[m]; known {
		return o
	}
	o := w.divide(m)
	w.shared[m] = o
	return o
}

// divide lets all treaties act once, in the order of their numbers. So those that protect the society need not act before the others: one that protects another treaty comes after it, and takes only of what this one has.
func (w work) divide(m moment) outcome {
	o := outcome{society: m.loss}
	for n, t := range w.Treaties {
		has := &o.society
		if t.Of != ofSociety {
			has = &o.keeps[t.Of]
		}
		pays := w.kinds[t.Kind].takes(t, *has, m.paid[n])
		*has -= pays
		o.pays[n], o.keeps[n] = pays, pays
	}
	return o
}

// canHold reports whether these reports are right in some truth of Losses.
func (w work) canHold(reports []Report) bool {
	for pays := range w.played {
		if pays.agrees(reports) {
			return true
		}
	}
	return false
}

// bounds returns the range from the minimum to the maximum of a number in all truths of the programme, of which there must be one.
func (w work) bounds(number func(outcome) int) Range {
	var numbers []int
	for pays, outcomes := range w.played {
		if !pays.agrees(w.Reports) {
			continue
		}
		for _, o := range outcomes {
			numbers = append(numbers, number(o))
		}
	}
	return Range{Lo: lists.Minimum(numbers...), Hi: slices.Max(numbers)}
}

// only is the programme with no treaties but those of the set, and without reports.
func (p Programme) only(set []int) Programme {
	all := p.Treaties
	p.Treaties, p.Reports = nil, nil
	for _, n := range set {
		p.Treaties = append(p.Treaties, all[n])
	}
	return p
}

// kept returns within which range is what the society keeps with the set alone.
func (p Programme) kept(set []int) Range { return playAll(p.only(set)).bounds(outcome.net) }

func (p Programme) suffices(set []int) bool { return p.kept(set).Hi <= p.Reserve }

func (p Programme) price(set []int) int {
	sum := 0
	for _, n := range set {
		sum += p.Treaties[n].Price
	}
	return sum
}

// cheapest returns the cheapest set, if one suffices. Of sets with the same price the first one that is tried is the cheapest.
func (p Programme) cheapest() (set []int, found bool) {
	treaties := len(p.Treaties)
	for size := range treaties + 1 {
		for list := range lists.Increasing(treaties, size) {
			if !p.hasSet(list) || found && p.price(list) >= p.price(set) {
				continue
			}
			if p.suffices(list) {
				set, found = slices.Clone(list), true
			}
		}
	}
	return set, found
}
