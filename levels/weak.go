package levels

import "caret/api"

// settleWeak: each rule goes over all of the sequence ahead of the next one, as the next one asks for what it leaves.
func (s *sequence) settleWeak() {
	s.settleMarks()
	s.turnNumbers(api.AL, api.AN)
	s.turnLetters()
	s.joinSeparators()
	s.joinTerminators()
	s.loosen()
	s.turnNumbers(api.L, api.L)
}

func (s *sequence) settleMarks() {
	for i, u := range s.units {
		if u.class != api.NSM {
			continue
		}
		u.class = s.ahead(i)
		if i > 0 && SetsApart(s.units[i-1].known) {
			u.class = api.ON
		}
	}
}

// turnNumbers: EN whose last letter ahead has one class becomes another.
func (s *sequence) turnNumbers(letter, to api.Class) {
	last := s.before
	for _, u := range s.units {
		switch u.class {
		case api.L, api.R, api.AL:
			last = u.class
		case api.EN:
			if last == letter {
				u.class = to
			}
		}
	}
}

func (s *sequence) turnLetters() {
	for _, u := range s.units {
		if u.class == api.AL {
			u.class = api.R
		}
	}
}

func (s *sequence) joinSeparators() {
	for i, u := range s.units {
		number := s.ahead(i)
		if number != s.at(i+1) {
			continue
		}
		switch {
		case number == api.EN && (u.class == api.ES || u.class == api.CS):
			u.class = api.EN
		case number == api.AN && u.class == api.CS:
			u.class = api.AN
		}
	}
}

func (s *sequence) joinTerminators() {
	for from, to := range s.stretches(func(c api.Class) bool { return c == api.ET }) {
		if s.ahead(from) == api.EN || s.at(to) == api.EN {
			s.fill(from, to, api.EN)
		}
	}
}

func (s *sequence) loosen() {
	for _, u := range s.units {
		switch u.class {
		case api.ES, api.ET, api.CS:
			u.class = api.ON
		}
	}
}
