// Package words: where words begin and end, and where lines are broken between them.
package words

import (
	"unicode/utf8"

	"caret/api"
	"caret/clusters"
	"caret/runes"
)

// Bounds tells the byte offsets at which a word begins or ends, rising.
func Bounds(text string) []int {
	bounds := []int{0}
	ahead := false
	for from, cluster := range clusters.All(text) {
		here := lettered(cluster)
		if from > 0 && here != ahead {
			bounds = append(bounds, from)
		}
		ahead = here
	}
	if len(text) > 0 {
		bounds = append(bounds, len(text))
	}
	return bounds
}

func lettered(cluster string) bool {
	switch firstClass(cluster) {
	case api.L, api.R, api.AL, api.EN, api.AN:
		return true
	}
	return false
}

func firstClass(cluster string) api.Class {
	first, _ := utf8.DecodeRuneInString(cluster)
	return runes.ClassOf(first)
}
