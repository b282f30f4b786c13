package umpire

// verdict is what comes of all fields together.
type verdict struct {
	fee, pence int
	fields     [sides]int // how many fields each side loses
}

func (v verdict) with(o outcome) verdict {
	v.pence += o.pence
	v.fields[o.loser]++
	return v
}

func (v verdict) called() bool {
	return v.fields[nobodyLoses]+v.fields[farmerLoses]+v.fields[societyLoses] > 0
}

func (v verdict) award() int { return v.pence }

// farmer is what the farmer pays of the fee: of two halves the greater one.
func (v verdict) farmer() int {
	lost, won := v.fields[farmerLoses], v.fields[societyLoses]
	switch {
	case !v.called() || lost < won:
		return 0
	case lost > won:
		return v.fee
	}
	return v.fee - v.fee/2
}

// society is what the society pays of the fee.
func (v verdict) society() int {
	if !v.called() {
		return 0
	}
	return v.fee - v.farmer()
}

// net is what the farmer is left with.
func (v verdict) net() int { return v.award() - v.farmer() }

// cost is what the society pays in all.
func (v verdict) cost() int { return v.award() + v.society() }
