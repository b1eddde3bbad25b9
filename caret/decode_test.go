package caret_test

import (
	"slices"
	"testing"
	"unicode/utf8"

	"caret/api"
	"caret/caret"
)

// sized is a rune and how many bytes it takes.
type sized struct {
	r     rune
	bytes int
}

// placed lays runes one behind the other.
func placed(list []sized) []api.Rune {
	var out []api.Rune
	from := 0
	for _, s := range list {
		out = append(out, api.Rune{Rune: s.r, From: from, To: from + s.bytes})
		from += s.bytes
	}
	return out
}

func TestDecodeTellsRunesAndTheirBytes(t *testing.T) {
	const bad = 0xFFFD
	for _, c := range []struct {
		name, text string
		want       []sized
	}{
		{"no bytes", "", nil},
		{"one byte", "a", []sized{{'a', 1}}},
		{"the rune 0", "\x00\x00", []sized{{0, 1}, {0, 1}}},
		{"one to four bytes", "a\u05D0\u3008\U0001F468", []sized{{'a', 1}, {0x5D0, 2}, {0x3008, 3}, {0x1F468, 4}}},
		{"the last of each length", "\x7F\u07FF\uFFFF\U0010FFFF", []sized{{0x7F, 1}, {0x7FF, 2}, {0xFFFF, 3}, {0x10FFFF, 4}}},
		{"U+FFFD itself takes three bytes", "\uFFFDa\uFFFD", []sized{{bad, 3}, {'a', 1}, {bad, 3}}},
		{"U+FFFD itself beside a bad byte", "\xFF\uFFFD\xFF", []sized{{bad, 1}, {bad, 3}, {bad, 1}}},
		{"a byte that only goes on", "\x80a\xBF", []sized{{bad, 1}, {'a', 1}, {bad, 1}}},
		{"cut off at the end", "a\xF0\x9F\x91", []sized{{'a', 1}, {bad, 1}, {bad, 1}, {bad, 1}}},
		{"cut off ahead of a rune", "\xE2\x80a", []sized{{bad, 1}, {bad, 1}, {'a', 1}}},
		{"longer than needed", "\xC0\x80", []sized{{bad, 1}, {bad, 1}}},
		{"half of a pair", "\xED\xA0\x80", []sized{{bad, 1}, {bad, 1}, {bad, 1}}},
		{"above the last rune", "\xF4\x90\x80\x80", []sized{{bad, 1}, {bad, 1}, {bad, 1}, {bad, 1}}},
	} {
		want := placed(c.want)
		if got := caret.Decode(c.text); !slices.Equal(got, want) {
			t.Errorf("P3: %s: Decode(%+q) = %v, want %v", c.name, c.text, got, want)
		}
	}
}

func TestDecodeReadsEachText(t *testing.T) {
	for text := range anyTexts(3000) {
		var want []api.Rune
		for from := 0; from < len(text); {
			r, size := utf8.DecodeRuneInString(text[from:])
			want = append(want, api.Rune{Rune: r, From: from, To: from + size})
			from += size
		}
		if got := caret.Decode(text); !slices.Equal(got, want) {
			t.Fatalf("P3: Decode(%+q) = %v, want %v", text, got, want)
		}
	}
}
