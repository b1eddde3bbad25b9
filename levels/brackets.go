package levels

import (
	"maps"
	"slices"

	"caret/api"
)

// closingOf is the closing bracket of an opening one, else 0.
func closingOf(r rune) rune {
	switch r {
	case '(':
		return ')'
	case '[':
		return ']'
	case '{':
		return '}'
	case 0x3008:
		return 0x3009
	case 0x300A:
		return 0x300B
	}
	return 0
}

// strong is the side that a class counts for, if any.
func strong(class api.Class) api.Class {
	switch class {
	case api.L:
		return api.L
	case api.R, api.EN, api.AN:
		return api.R
	}
	return none
}

// pairs finds the closing bracket of each opening one that has one.
func (s *sequence) pairs() map[int]int {
	pairs := map[int]int{}
	open := map[int]rune{} // by their places: what closes them
	for i, u := range s.units {
		if u.class != api.ON {
			continue
		}
		if closing := closingOf(u.r); closing != 0 {
			if len(open) == api.MaxBrackets {
				break
			}
			open[i] = closing
			continue
		}
		if opening := lastOpen(open, u.r); opening >= 0 {
			pairs[opening] = i
			maps.DeleteFunc(open, func(at int, _ rune) bool { return at >= opening })
		}
	}
	return pairs
}

// lastOpen is the last bracket that r closes, or -1.
func lastOpen(open map[int]rune, r rune) int {
	last := -1
	for at, closing := range open {
		if closing == r {
			last = max(last, at)
		}
	}
	return last
}

// settleBrackets goes by the order of the opening ones, as a pair that has become strong counts for those behind.
func (s *sequence) settleBrackets() {
	pairs := s.pairs()
eachPair:
	for _, opening := range slices.Sorted(maps.Keys(pairs)) {
		closing := pairs[opening]
		becomes := none
		for _, u := range s.units[opening+1 : closing] {
			switch strong(u.class) {
			case s.own():
				s.settlePair(opening, closing, s.own())
				continue eachPair
			case none:
			default:
				// The other direction holds if it does ahead too, else the sequence's own: that is, what holds ahead.
				becomes = s.strongAhead(opening)
			}
		}
		if becomes != none {
			s.settlePair(opening, closing, becomes)
		}
	}
}

func (s *sequence) strongAhead(i int) api.Class {
	for _, u := range slices.Backward(s.units[:i]) {
		if side := strong(u.class); side != none {
			return side
		}
	}
	return s.before
}

func (s *sequence) settlePair(opening, closing int, class api.Class) {
	s.settleBracket(opening, class)
	s.settleBracket(closing, class)
}

// settleBracket takes the marks of a bracket along.
func (s *sequence) settleBracket(i int, class api.Class) {
	s.units[i].class = class
	for _, u := range s.units[i+1:] {
		if u.known != api.NSM {
			return
		}
		u.class = class
	}
}
