package levels

import (
	"iter"

	"caret/api"
)

// run is the places of units of one level that stand one behind the other.
type run struct {
	level  int
	places []int
}

// sequence is runs that go on behind what is set apart within them, as if it were not there.
type sequence struct {
	units          []*unit
	level          int
	before, behind api.Class
}

func (p *paragraph) runs() []run {
	var runs []run
	for place, u := range p.units {
		if PassedOver(u.known) {
			continue
		}
		last := len(runs) - 1
		if last < 0 || runs[last].level != u.level {
			runs = append(runs, run{level: u.level})
			last++
		}
		runs[last].places = append(runs[last].places, place)
	}
	return runs
}

func (p *paragraph) sequences() []*sequence {
	runs := p.runs()
	var all []*sequence
	awaited := map[int]int{} // by a partner's place: the sequence that its run goes on with
	for i, r := range runs {
		at, follows := awaited[r.places[0]]
		if !follows {
			at = len(all)
			all = append(all, &sequence{level: r.level, before: side(r.level, p.levelOf(runs, i-1))})
		}
		all[at].behind = side(r.level, p.levelBehind(runs, i))
		p.join(all[at], r)
		if partner, found := p.partners[r.last()]; found {
			awaited[partner] = at
		}
	}
	return all
}

func (r run) last() int { return r.places[len(r.places)-1] }

func (p *paragraph) join(s *sequence, r run) {
	for _, place := range r.places {
		s.units = append(s.units, &p.units[place])
	}
}

// levelOf is a run's level, and the paragraph's outside of the text.
func (p *paragraph) levelOf(runs []run, i int) int {
	if i < 0 || i >= len(runs) {
		return p.level
	}
	return runs[i].level
}

func (p *paragraph) levelBehind(runs []run, i int) int {
	if initiates(p.units[runs[i].last()].known) {
		return p.level
	}
	return p.levelOf(runs, i+1)
}

// side is the direction of what is deeper.
func side(level, beside int) api.Class {
	if max(level, beside)%2 == 0 {
		return api.L
	}
	return api.R
}

func (s *sequence) own() api.Class { return side(s.level, s.level) }

// ahead is the class of what stands ahead of a unit.
func (s *sequence) ahead(i int) api.Class {
	if i == 0 {
		return s.before
	}
	return s.units[i-1].class
}

// at is the class of a unit; at the end that of what stands behind.
func (s *sequence) at(i int) api.Class {
	if i == len(s.units) {
		return s.behind
	}
	return s.units[i].class
}

// stretches are units that fit and stand together, as many as there are: from one to (without) another.
func (s *sequence) stretches(fits func(api.Class) bool) iter.Seq2[int, int] {
	return func(yield func(int, int) bool) {
		from := 0
		for i, u := range s.units {
			if fits(u.class) {
				continue
			}
			if from < i && !yield(from, i) {
				return
			}
			from = i + 1
		}
		if from < len(s.units) {
			yield(from, len(s.units))
		}
	}
}

func (s *sequence) fill(from, to int, class api.Class) {
	for _, u := range s.units[from:to] {
		u.class = class
	}
}

// grow lifts what does not run as its level does.
func (s *sequence) grow() {
	for _, u := range s.units {
		number := u.class == api.EN || u.class == api.AN
		switch {
		case s.level%2 == 0 && number:
			u.level += 2
		case u.class != s.own():
			u.level++
		}
	}
}
