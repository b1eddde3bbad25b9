// Package caret: carets in texts that run both ways: see DOC.md.
package caret

import (
	"caret/api"
	"caret/clusters"
	"caret/levels"
	"caret/runes"
	"caret/setups"
)

// Decode reads a text (P3).
func Decode(text string) []api.Rune { return runes.Decode(text) }

// ClassOf tells how a rune runs (P4).
func ClassOf(r rune) api.Class { return runes.ClassOf(r) }

// KindOf tells how a rune joins others (P4).
func KindOf(r rune) api.Kind { return runes.KindOf(r) }

// Clusters tells where clusters begin and end (P5).
func Clusters(text string) []int { return clusters.Bounds(text) }

// Snap goes to the next boundary of a cluster, down or up (P6).
func Snap(text string, offset int, up bool) int { return clusters.Snap(text, offset, up) }

// Levels tells the level of each rune, and the paragraph's (P7, P8).
func Levels(text string, base int) ([]int, int, api.Errno) {
	if err := setups.CheckText(text, base); err != nil {
		return nil, 0, setups.Number(err)
	}
	list, paragraph := levels.Of(text, base)
	return list, paragraph, api.OK
}
