package runes

import (
	"sort"

	"caret/api"
)

type kindRow struct {
	first, last rune
	kind        api.Kind
}

// Rising, for a search by halves.
var kinds = [...]kindRow{
	{0x0000, 0x0009, api.Control},
	{0x000A, 0x000A, api.LF},
	{0x000B, 0x000C, api.Control},
	{0x000D, 0x000D, api.CR},
	{0x000E, 0x001F, api.Control},
	{0x007F, 0x009F, api.Control},
	{0x00A9, 0x00A9, api.Pict},
	{0x00AD, 0x00AD, api.Control},
	{0x00AE, 0x00AE, api.Pict},
	{0x0300, 0x036F, api.Extend},
	{0x0591, 0x05BD, api.Extend},
	{0x0600, 0x0605, api.Prepend},
	{0x061C, 0x061C, api.Control},
	{0x064B, 0x065F, api.Extend},
	{0x0670, 0x0670, api.Extend},
	{0x0903, 0x0903, api.Spacing},
	{0x093E, 0x0940, api.Spacing},
	{0x1100, 0x115F, api.Lead},
	{0x1160, 0x11A7, api.Vowel},
	{0x11A8, 0x11FF, api.Trail},
	{0x200B, 0x200B, api.Control},
	{0x200C, 0x200C, api.Extend},
	{0x200D, 0x200D, api.Joiner},
	{0x200E, 0x200F, api.Control},
	{0x2028, 0x202E, api.Control},
	{0x2066, 0x2069, api.Control},
	{0x2600, 0x27BF, api.Pict},
	{0xFE00, 0xFE0F, api.Extend},
	{0xFEFF, 0xFEFF, api.Control},
	{0x1F1E6, 0x1F1FF, api.Flag},
	{0x1F300, 0x1F3FA, api.Pict},
	{0x1F3FB, 0x1F3FF, api.Extend},
	{0x1F400, 0x1F9FF, api.Pict},
}

// Syllables of Lead and Vowel stand in one block; behind each come those with a Trail too.
const (
	firstSyllable    = 0xAC00
	lastSyllable     = 0xD7A3
	syllablesByVowel = 28
)

// KindOf tells how a rune joins others.
func KindOf(r rune) api.Kind {
	if firstSyllable <= r && r <= lastSyllable {
		return syllableKind(r)
	}
	i := sort.Search(len(kinds), func(i int) bool { return r <= kinds[i].last })
	if i < len(kinds) && kinds[i].first <= r {
		return kinds[i].kind
	}
	return api.Other
}

func syllableKind(r rune) api.Kind {
	if (r-firstSyllable)%syllablesByVowel == 0 {
		return api.LeadVowel
	}
	return api.LeadVowelTrail
}
