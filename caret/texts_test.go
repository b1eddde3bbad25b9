package caret_test

import "iter"

// One rune of each kind and some more, and bytes that are no part of a rune.
var pieces = []string{
	"a", "\r", "\n", "\t", "\u0301", "\u200D", "\U0001F1E6", "\u0600", "\u0903",
	"\u1100", "\u1160", "\u11A8", "\uAC00", "\uAC01", "\U0001F468", "\xFF",
	"\u05D0", "\u200C", "\U0001F3FB", "\u2028", "\u2067", "\uFFFD", "\x80", "\xE2\x80", "\xF0\x9F",
}

// allTexts: each text of up to most of the parts.
func allTexts(parts []string, most int) iter.Seq[string] {
	return func(yield func(string) bool) {
		var grow func(text string, left int) bool
		grow = func(text string, left int) bool {
			if !yield(text) {
				return false
			}
			for _, p := range parts {
				if left > 0 && !grow(text+p, left-1) {
					return false
				}
			}
			return true
		}
		grow("", most)
	}
}

// anyTexts: some longer texts, the same ones each time.
func anyTexts(count int) iter.Seq[string] {
	return func(yield func(string) bool) {
		seed := uint32(1)
		next := func(below int) int {
			seed = seed*1664525 + 1013904223
			return int(seed>>16) % below
		}
		for range count {
			text := ""
			for range next(40) {
				text += pieces[next(len(pieces))]
			}
			if !yield(text) {
				return
			}
		}
	}
}
