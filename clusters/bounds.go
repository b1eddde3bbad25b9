// Package clusters: where the signs of a text, as a reader takes them, begin and end.
package clusters

import (
	"caret/api"
	"caret/runes"
)

// Bounds tells the byte offsets of all boundaries, rising.
func Bounds(text string) []int {
	bounds := []int{0}
	var passed ahead
	for from, r := range text {
		kind := runes.KindOf(r)
		if from > 0 && passed.parts(kind) {
			bounds = append(bounds, from)
		}
		passed.pass(kind)
	}
	if len(text) > 0 {
		bounds = append(bounds, len(text))
	}
	return bounds
}

// How much of what lets a Pict join (a Pict, any number of Extend, a Joiner) stands ahead.
const (
	noPict = iota
	pictAndExtends
	pictAndJoiner
)

// ahead is what the rules ask of the runes ahead of a place. It is carried along, as looking back at each place would take too long in a long text.
type ahead struct {
	last     api.Kind
	pict     int
	oddFlags bool
}

func (a *ahead) pass(kind api.Kind) {
	a.last = kind
	a.pict = pictBehind(a.pict, kind)
	a.oddFlags = kind == api.Flag && !a.oddFlags
}

func pictBehind(pict int, kind api.Kind) int {
	switch {
	case kind == api.Pict:
		return pictAndExtends
	case kind == api.Extend && pict == pictAndExtends:
		return pictAndExtends
	case kind == api.Joiner && pict == pictAndExtends:
		return pictAndJoiner
	}
	return noPict
}

// parts tells whether a boundary stands ahead of next. The cases are the document's rules in their order: the first that fits decides.
func (a *ahead) parts(next api.Kind) bool {
	switch {
	case a.last == api.CR && next == api.LF:
		return false
	case standsAlone(a.last) || standsAlone(next):
		return true
	case joinsSyllable(a.last, next):
		return false
	case next == api.Extend || next == api.Joiner || next == api.Spacing:
		return false
	case a.last == api.Prepend:
		return false
	case a.pict == pictAndJoiner && next == api.Pict:
		return false
	case a.oddFlags && next == api.Flag:
		return false
	}
	return true
}

func standsAlone(kind api.Kind) bool {
	return kind == api.CR || kind == api.LF || kind == api.Control
}

func joinsSyllable(last, next api.Kind) bool {
	switch last {
	case api.Lead:
		return next == api.Lead || next == api.Vowel || next == api.LeadVowel || next == api.LeadVowelTrail
	case api.LeadVowel, api.Vowel:
		return next == api.Vowel || next == api.Trail
	case api.LeadVowelTrail, api.Trail:
		return next == api.Trail
	}
	return false
}
