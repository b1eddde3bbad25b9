package caret_test

import (
	"iter"
	"maps"
	"slices"
	"strings"
)

// One rune of each kind and some more, and bytes that are no part of a rune.
var pieces = []string{
	"a", "\r", "\n", "\t", "\u0301", "\u200D", "\U0001F1E6", "\u0600", "\u0903",
	"\u1100", "\u1160", "\u11A8", "\uAC00", "\uAC01", "\U0001F468", "\xFF",
	"\u05D0", "\u200C", "\U0001F3FB", "\u2028", "\u2067", "\uFFFD", "\x80", "\xE2\x80", "\xF0\x9F",
}

// allTexts: each text of up to most of the parts.
func allTexts(parts []string, most int) iter.Seq[string] {
	return func(yield func(string) bool) {
		var grow func(text string, left int) bool
		grow = func(text string, left int) bool {
			if !yield(text) {
				return false
			}
			for _, p := range parts {
				if left > 0 && !grow(text+p, left-1) {
					return false
				}
			}
			return true
		}
		grow("", most)
	}
}

func anyTexts(count int) iter.Seq[string] { return anyTextsOf(pieces, 40, count) }

// dice: chances that fall the same way each time.
type dice uint32

func (d *dice) below(count int) int {
	*d = *d*1664525 + 1013904223
	return int(*d>>16) % count
}

func (d *dice) text(parts []string, most int) string {
	text := ""
	for range d.below(most) {
		text += parts[d.below(len(parts))]
	}
	return text
}

// anyTextsOf: some longer texts of fewer than most parts, the same ones each time.
func anyTextsOf(parts []string, most, count int) iter.Seq[string] {
	return func(yield func(string) bool) {
		d := dice(1)
		for range count {
			if !yield(d.text(parts, most)) {
				return
			}
		}
	}
}

// A rune of each class.
var samples = map[string]string{
	"L": "a", "R": "\u05D0", "AL": "\u0627", "EN": "1", "ES": "+", "ET": "$", "AN": "\u0666", "CS": ",",
	"NSM": "\u0301", "BN": "\u200B", "B": "\n", "S": "\t", "WS": " ", "ON": "!",
	"LRE": "\u202A", "RLE": "\u202B", "PDF": "\u202C", "LRO": "\u202D", "RLO": "\u202E",
	"LRI": "\u2066", "RLI": "\u2067", "FSI": "\u2068", "PDI": "\u2069",
}

// A rune of each class, and brackets.
var runners = append(slices.Sorted(maps.Values(samples)), "(", ")", "[", "]", "{", "}", "\u3008", "\u3009", "\u300A", "\u300B")

// spelled reads words, with blanks between: the name of a class is its sample, LRE*3 three LREs; other words stand for themselves.
func spelled(words string) []string {
	var parts []string
	for _, word := range strings.Fields(words) {
		name, times, repeated := strings.Cut(word, "*")
		part, found := samples[name]
		if !found {
			part = name
		}
		if repeated {
			part = strings.Repeat(part, int(times[0]-'0'))
		}
		parts = append(parts, part)
	}
	return parts
}

func spell(words string) string { return strings.Join(spelled(words), "") }
