// Package runes: what is known of single runes, and texts as runes.
package runes

import "caret/api"

// Decode reads a text; a byte that is no part of a rune is U+FFFD.
func Decode(text string) []api.Rune {
	var out []api.Rune
	for from, r := range text {
		// A rune's size can't be told from its value: U+FFFD takes one byte or three. So the next one tells where it ends.
		if n := len(out); n > 0 {
			out[n-1].To = from
		}
		out = append(out, api.Rune{Rune: r, From: from, To: len(text)})
	}
	return out
}
