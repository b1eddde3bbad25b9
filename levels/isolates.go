package levels

import "caret/api"

// initiates is asked of the class by the table, as an initiator with an override stays one.
func initiates(known api.Class) bool {
	return known == api.LRI || known == api.RLI || known == api.FSI
}

// SetsApart tells initiators and PDI, by the table too.
func SetsApart(known api.Class) bool { return initiates(known) || known == api.PDI }

// partnersIn finds the partner of each initiator that has one. What is one within the other ends first: so a PDI belongs to the last initiator that is still open.
func partnersIn(units []unit) map[int]int {
	partners := map[int]int{}
	var open []int
	for place, u := range units {
		last := len(open) - 1
		switch {
		case initiates(u.known):
			open = append(open, place)
		case u.known == api.PDI && last >= 0:
			partners[open[last]] = place
			open = open[:last]
		}
	}
	return partners
}

// startsRight tells whether the first strong of a part is R or AL.
func (p *paragraph) startsRight(from, to int) bool {
	for place := from; place < to; place++ {
		known := p.units[place].known
		switch {
		case known == api.L:
			return false
		case known == api.R || known == api.AL:
			return true
		case initiates(known):
			partner, found := p.partners[place]
			if !found {
				return false
			}
			place = partner
		}
	}
	return false
}

// isolatesRight tells whether what an initiator sets apart runs from the right.
func (p *paragraph) isolatesRight(place int) bool {
	known := p.units[place].known
	if known != api.FSI {
		return known == api.RLI
	}
	end, found := p.partners[place]
	if !found {
		end = len(p.units)
	}
	return p.startsRight(place+1, end)
}
