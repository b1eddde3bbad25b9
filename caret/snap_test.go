package caret_test

import (
	"math"
	"strings"
	"testing"

	"caret/caret"
)

func TestSnapGoesDownAndUp(t *testing.T) {
	for _, c := range []struct {
		text             string
		offset, down, up int
	}{
		{"", 0, 0, 0}, {"", -1, 0, 0}, {"", 1, 0, 0}, {"", math.MinInt, 0, 0}, {"", math.MaxInt, 0, 0},
		{"ab", -1, 0, 0}, {"ab", 0, 0, 0}, {"ab", 1, 1, 1}, {"ab", 2, 2, 2}, {"ab", 3, 2, 2},
		{"ab", math.MinInt, 0, 0}, {"ab", math.MaxInt, 2, 2},
		{"\u05D0\u05D1", 1, 0, 2}, {"\u05D0\u05D1", 2, 2, 2}, {"\u05D0\u05D1", 3, 2, 4},
		{"xe\u0301y", 1, 1, 1}, {"xe\u0301y", 2, 1, 4}, {"xe\u0301y", 3, 1, 4}, {"xe\u0301y", 4, 4, 4},
		{"e\u0301", -1, 0, 0}, {"e\u0301", 2, 0, 3}, {"e\u0301", 3, 3, 3}, {"e\u0301", 4, 3, 3},
		{"\r\n", 1, 0, 2}, {"\n\r", 1, 1, 1},
		{"\xFF\xFF", 1, 1, 1}, {"\xE2\x80", 1, 1, 1},
		{"\U0001F1E6\U0001F1E7\U0001F1E8", 4, 0, 8}, {"\U0001F1E6\U0001F1E7\U0001F1E8", 9, 8, 12},
	} {
		if got := caret.Snap(c.text, c.offset, false); got != c.down {
			t.Errorf("P6: Snap(%+q, %d, false) = %d, want %d", c.text, c.offset, got, c.down)
		}
		if got := caret.Snap(c.text, c.offset, true); got != c.up {
			t.Errorf("P6: Snap(%+q, %d, true) = %d, want %d", c.text, c.offset, got, c.up)
		}
	}
}

func TestSnapAtEachOffset(t *testing.T) {
	kindOf := wantedKinds(t)
	for text := range anyTexts(500) {
		bounds := boundsByRules(text, kindOf)
		for offset := -2; offset <= len(text)+2; offset++ {
			meant := min(max(offset, 0), len(text))
			down, up := 0, len(text)
			for _, b := range bounds {
				if b <= meant {
					down = max(down, b)
				}
				if b >= meant {
					up = min(up, b)
				}
			}
			if a, b := caret.Snap(text, offset, false), caret.Snap(text, offset, true); a != down || b != up {
				t.Fatalf("P6: Snap(%+q, %d) = %d down, %d up, want %d, %d", text, offset, a, b, down, up)
			}
		}
	}
}

func TestSnapInALongText(t *testing.T) {
	const many = 1 << 20
	text := "a" + strings.Repeat("\u0301", many) + "b"
	if a, b := caret.Snap(text, many, false), caret.Snap(text, many, true); a != 0 || b != 2*many+1 {
		t.Errorf("P6: %d down, %d up, want 0, %d", a, b, 2*many+1)
	}
}
