package documents

import (
	"strings"

	"caret/api"
	"caret/levels"
	"caret/runes"
)

const blank = ' '

// clean makes a text one paragraph of whole runes: a byte that is no part of a rune becomes U+FFFD, and what would end a paragraph a blank.
func clean(text string) string {
	var out strings.Builder
	for _, r := range text {
		if runes.ClassOf(r) == api.B {
			r = blank
		}
		out.WriteRune(r)
	}
	return out.String()
}

// firstWide is the first of the wide runes.
const firstWide = 0x1100

func widthsOf(text string, m api.Metric) []int {
	var out []int
	for _, r := range text {
		out = append(out, widthOf(r, m))
	}
	return out
}

func widthOf(r rune, m api.Metric) int {
	switch {
	case unseen(runes.ClassOf(r)):
		return 0
	case r >= firstWide:
		return m.Wide
	}
	return m.Narrow
}

// unseen tells what takes no room of its own: marks on other runes, and what only tells how these run.
func unseen(class api.Class) bool {
	return class == api.NSM || levels.PassedOver(class) || levels.SetsApart(class)
}
