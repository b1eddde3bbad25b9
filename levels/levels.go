// Package levels: which way each rune of a text runs, and how deep it stands in what runs the other way.
package levels

import (
	"caret/api"
	"caret/runes"
)

// unit is a rune, and what the rules have made of it so far.
type unit struct {
	r     rune
	known api.Class // by the table
	class api.Class // as it is now
	level int
}

type paragraph struct {
	units    []unit
	partners map[int]int // by the places of initiators
	level    int
}

// Of tells the level of each rune, and the paragraph's.
func Of(text string, base int) ([]int, int) {
	p := read(text)
	p.level = p.levelFrom(base)
	p.embed()
	for _, s := range p.sequences() {
		s.settleWeak()
		s.settleBrackets()
		s.settleNeutrals()
		s.grow()
	}
	p.settlePassedOver()
	return p.levels(), p.level
}

func read(text string) *paragraph {
	p := &paragraph{}
	for _, r := range text {
		class := runes.ClassOf(r)
		p.units = append(p.units, unit{r: r, known: class, class: class})
	}
	p.partners = partnersIn(p.units)
	return p
}

func (p *paragraph) levelFrom(base int) int {
	byText := base == api.ByText && p.startsRight(0, len(p.units))
	return levelToward(base == api.FromRight || byText)
}

func levelToward(right bool) int {
	if right {
		return 1
	}
	return 0
}

// PassedOver is asked of the class by the table, as no override reaches these.
func PassedOver(known api.Class) bool {
	switch known {
	case api.BN, api.LRE, api.RLE, api.LRO, api.RLO, api.PDF:
		return true
	}
	return false
}

// settlePassedOver comes last, as what is passed over takes what the rune ahead has in the end.
func (p *paragraph) settlePassedOver() {
	ahead := p.level
	for i := range p.units {
		if PassedOver(p.units[i].known) {
			p.units[i].level = ahead
		}
		ahead = p.units[i].level
	}
}

func (p *paragraph) levels() []int {
	out := make([]int, len(p.units))
	for i, u := range p.units {
		out[i] = u.level
	}
	return out
}
