package levels

import "caret/api"

// neutral is asked of the class as it is now: what has another one by an override is none.
func neutral(class api.Class) bool {
	switch class {
	case api.B, api.S, api.WS, api.ON, api.LRI, api.RLI, api.FSI, api.PDI:
		return true
	}
	return false
}

func (s *sequence) settleNeutrals() {
	for from, to := range s.stretches(neutral) {
		becomes := strong(s.ahead(from))
		if becomes != strong(s.at(to)) {
			becomes = s.own()
		}
		s.fill(from, to, becomes)
	}
}
