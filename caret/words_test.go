package caret_test

import (
	"slices"
	"strings"
	"testing"

	"caret/api"
	"caret/caret"
)

func checkWords(t *testing.T, what, text string, want ...int) {
	t.Helper()
	if got := caret.Words(text); !slices.Equal(got, want) {
		t.Errorf("P25: %s: Words(%+q) = %v, want %v", what, text, got, want)
	}
}

func TestWordsOfTexts(t *testing.T) {
	checkWords(t, "the document's example", "ab, c", 0, 2, 4, 5)
	checkWords(t, "no bytes", "", 0)
	for _, c := range []struct {
		what, text string
		want       []int
	}{
		{"a letter", "a", []int{0, 1}}, {"a word", "abc", []int{0, 3}}, {"a sign", "!", []int{0, 1}}, {"signs alone", "!?, -", []int{0, 5}}, {"blanks alone", "   ", []int{0, 3}},
		{"blanks between", "ab  cd", []int{0, 2, 4, 6}}, {"blanks at the beginning", "  ab", []int{0, 2, 4}}, {"blanks at the end", "ab  ", []int{0, 2, 4}}, {"a blank and a sign", "a, b", []int{0, 1, 3, 4}},
		{"digits", "12", []int{0, 2}}, {"digits and letters", "a1b2", []int{0, 4}}, {"a sign between digits", "1.5", []int{0, 1, 2, 3}}, {"a sign ahead of digits", "$12", []int{0, 1, 3}}, {"a sign between letters", "a-b", []int{0, 1, 2, 3}}, {"a blank that does not break", "a\u00A0b", []int{0, 1, 3, 4}},
		{"from the right", "\u05D0\u05D1 \u05D2", []int{0, 4, 5, 7}}, {"both directions", "ab\u05D0\u05D1", []int{0, 6}}, {"both directions, a sign between", "ab\u05BE!\u05D0", []int{0, 4, 5, 7}}, {"each lettered class", "a\u05D0\u06271\u0660", []int{0, 8}}, {"brackets", "(\u05D0)", []int{0, 1, 3, 4}},
		{"a mark in a word", "e\u0301x", []int{0, 4}}, {"a mark behind a word", "xe\u0301 y", []int{0, 4, 5, 6}}, {"a mark on a blank", "a \u0301b", []int{0, 1, 4, 5}}, {"a mark on a sign", "!\u0301a", []int{0, 3, 4}}, {"a mark at the beginning", "\u0301a", []int{0, 2, 3}}, {"a mark behind a line's end", "\n\u0301a", []int{0, 3, 4}},
		{"Prepend and a letter", "\u0600a", []int{0, 3}}, {"Prepend and a sign", "\u0600!a", []int{0, 4}}, {"signs that run as letters", "\U0001F1E6\U0001F1E7a", []int{0, 9}}, {"signs joined", "\U0001F468\u200D\U0001F469a", []int{0, 11, 12}},
		{"what is passed over", "a\u200Bb", []int{0, 1, 4, 5}}, {"a joiner", "a\u200Db", []int{0, 5}}, {"an embedding", "a\u202Bb\u202Cc", []int{0, 1, 4, 5, 8, 9}}, {"an isolate", "\u2067a\u2069", []int{0, 3, 4, 7}}, {"a mark that is a letter", "a\u200Fb", []int{0, 5}},
		{"paragraphs", "a\nb\r\nc", []int{0, 1, 2, 3, 5, 6}}, {"a tab", "a\tb", []int{0, 1, 2, 3}},
		{"a byte that is no part of a rune", "\xFFa", []int{0, 1, 2}}, {"one between", "a\xFFb", []int{0, 1, 2, 3}}, {"several", "\xE2\x80a", []int{0, 2, 3}}, {"one and a mark", "a\x80\u0301b", []int{0, 1, 4, 5}}, {"U+FFFD itself", "a\uFFFDb", []int{0, 1, 4, 5}}, {"bytes cut off", "a\xD7", []int{0, 1, 2}},
	} {
		checkWords(t, c.what, c.text, c.want...)
	}
}

// Ahead of a letter a boundary stands just behind what is not lettered.
func TestWhichClassesAreLettered(t *testing.T) {
	letters := []string{"L", "R", "AL", "EN", "AN"}
	for class, sample := range samples {
		want := []int{0, len(sample), len(sample) + 1}
		if slices.Contains(letters, class) {
			want = []int{0, len(sample) + 1}
		}
		checkWords(t, class, sample+"a", want...)
	}
}

func TestWordsOfLongTexts(t *testing.T) {
	checkWords(t, "401 letters", strings.Repeat("a", 401), 0, 401)
	checkWords(t, "a letter and 400 signs", "a"+strings.Repeat("!", 400), 0, 1, 401)
	const count = 1 << 16
	got := caret.Words(strings.Repeat("\u05D0e\u0301, ", count))
	if len(got) != 2*count+1 {
		t.Fatalf("P25: %d boundaries, want %d", len(got), 2*count+1)
	}
	for i, bound := range got {
		if want := i/2*7 + i%2*5; bound != want {
			t.Fatalf("P25: boundary %d at %d, want %d", i, bound, want)
		}
	}
	checkWords(t, "one long cluster", "!"+strings.Repeat("\u0301", count), 0, 1+2*count)
}

// wordsByRules: P25, as its sentence goes: each boundary of clusters is asked for itself.
func wordsByRules(text string, known tables) []int {
	bounds := boundsByRules(text, known.kinds)
	lettered := func(from int) bool {
		return among(known.classes[[]rune(text[from:])[0]], api.L, api.R, api.AL, api.EN, api.AN)
	}
	var out []int
	for i, b := range bounds {
		if i == 0 || i == len(bounds)-1 || lettered(bounds[i-1]) != lettered(b) {
			out = append(out, b)
		}
	}
	return out
}

func TestWordsOfManyTexts(t *testing.T) {
	known := bothTables(t)
	check := func(text string) {
		if got, want := caret.Words(text), wordsByRules(text, known); !slices.Equal(got, want) {
			t.Fatalf("P25: Words(%+q) = %v, want %v", text, got, want)
		}
	}
	for text := range allTexts(pieces, 3) {
		check(text)
	}
	for text := range allTexts(runners, 2) {
		check(text)
	}
	for text := range anyTexts(500) {
		check(text)
	}
	for text := range anyTextsOf(runners, 40, 500) {
		check(text)
	}
}
