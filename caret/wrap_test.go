package caret_test

import (
	"math"
	"math/big"
	"slices"
	"strings"
	"testing"

	"caret/api"
	"caret/caret"
)

// wrapping: a text, the room for a line, and where it is broken.
type wrapping struct {
	what, text string
	room       int
	want       []int
}

// Each rune is 10 wide.
func checkWrap(t *testing.T, cases []wrapping) {
	t.Helper()
	for _, c := range cases {
		got := caret.Wrap(c.text, tens(c.text), c.room)
		if !slices.Equal(got, c.want) {
			t.Errorf("P26: %s: Wrap(%+q, .., %d) = %v, want %v", c.what, c.text, c.room, got, c.want)
		}
	}
}

func TestWrapOfTheExamples(t *testing.T) {
	checkWrap(t, []wrapping{
		{"an example", "ab cd ef", 50, []int{6}}, {"an example", "ab cd ef", 20, []int{3, 6}}, {"an example", "ab cd ef", 10, []int{1, 3, 4, 6, 7}},
	})
}

func TestWrapByRoom(t *testing.T) {
	checkWrap(t, []wrapping{
		{"just enough", "ab cd ef", 80, nil}, {"one too little", "ab cd ef", 79, []int{6}}, {"just enough for two words", "ab cd ef", 50, []int{6}}, {"one too little for two words", "ab cd ef", 49, []int{3, 6}}, {"just enough for a word", "ab cd ef", 20, []int{3, 6}}, {"one too little for a word", "ab cd ef", 19, []int{1, 3, 4, 6, 7}},
		{"no room", "abc", 0, []int{1, 2}}, {"less than a rune", "abc", 9, []int{1, 2}}, {"room below 0", "abc", -1, []int{1, 2}}, {"room far below 0", "abc", -1 << 40, []int{1, 2}}, {"the least room", "abc", math.MinInt, []int{1, 2}}, {"the greatest room", "abc", math.MaxInt, nil}, {"room above 2^32", "abc", 1<<32 + 1, nil}, {"room below -2^32", "abc", -1<<32 + 20, []int{1, 2}},
		{"no room, with blanks", "a b c", 0, []int{2, 4}}, {"the least room, with blanks", "a b c", math.MinInt, []int{2, 4}}, {"the greatest room, with blanks", "a b c", math.MaxInt, nil},
		{"no bytes", "", 0, nil}, {"no bytes", "", 99, nil}, {"no bytes", "", -99, nil}, {"no bytes", "", math.MinInt, nil}, {"no bytes", "", math.MaxInt, nil},
		{"one cluster", "a", 0, nil}, {"one cluster", "a", math.MinInt, nil}, {"one blank", " ", -1, nil},
	})
}

func TestWrapAtBlanks(t *testing.T) {
	checkWrap(t, []wrapping{
		{"blanks at the beginning", "   abc", 20, []int{3, 5}}, {"blanks at the beginning", "  ab", 40, nil}, {"blanks at the beginning", "  ab", 39, []int{2}}, {"a blank at the beginning", " ab", 20, []int{1}}, {"a blank at the beginning", " ab", 0, []int{1, 2}},
		{"blanks at the end", "ab    ", 20, nil}, {"blanks at the end", "ab    ", 0, []int{1}}, {"blanks at the end", "ab cd   ", 20, []int{3}}, {"blanks alone", "     ", 10, nil}, {"blanks alone", "     ", math.MinInt, nil},
		{"blanks together", "a    b", 10, []int{5}}, {"blanks together", "a    b", 59, []int{5}}, {"blanks together", "a    b", 60, nil}, {"blanks together", "ab  cd  ef", 59, []int{4, 8}}, {"blanks together", "ab  cd  ef", 60, []int{8}}, {"blanks together", "ab  cd  ef", 80, []int{8}},
		{"the last of several blanks", "a b c d", 60, []int{6}}, {"the last of several blanks", "a b c d", 50, []int{6}}, {"the last of several blanks", "a b c d", 40, []int{4}}, {"blanks fill the line", "a b c d", 30, []int{4}},
		{"a blank that does not fit", "abc d", 30, []int{4}}, {"a blank counts for what comes behind it", "ab c", 30, []int{3}}, {"a word that is broken behind a blank", "ab cdefgh", 30, []int{3, 6}}, {"what is left of a broken word", "abcde f g", 30, []int{3, 6}},
		{"no blank", "abcdef", 30, []int{3}}, {"no blank", "abcdef", 20, []int{2, 4}}, {"no blank", "abcdef", 59, []int{5}}, {"signs break nothing", "a-b,c", 30, []int{3}}, {"a tab is no blank", "ab\tcd", 30, []int{3}}, {"U+00A0 is no blank", "a\u00A0b c", 30, []int{5}}, {"nor are U+200B and U+202F", "a\u200Bb\u202Fc", 30, []int{5}}, {"nor is a line's end", "a\nbc", 30, []int{3}},
		{"U+000C", "ab\fcd", 30, []int{3}}, {"U+000C", "ab\fcd", 40, []int{3}}, {"U+2028", "ab\u2028cd", 40, []int{5}}, {"all three", "a \f\u2028bc", 40, []int{6}},
	})
}

func TestWrapOfClusters(t *testing.T) {
	checkWrap(t, []wrapping{
		{"two runes each", "e\u0301e\u0301", 20, []int{3}}, {"two runes each", "e\u0301e\u0301", 39, []int{3}}, {"two runes each", "e\u0301e\u0301", 40, nil}, {"less than one of them", "e\u0301e\u0301", 10, []int{3}}, {"no room", "e\u0301e\u0301e\u0301", 0, []int{3, 6}},
		{"flags", "\U0001F1E6\U0001F1E7\U0001F1E8\U0001F1E9", 30, []int{8}}, {"signs joined", "a\U0001F468\u200D\U0001F469b", 40, []int{12}}, {"signs joined", "a\U0001F468\u200D\U0001F469b", 30, []int{1, 12}}, {"CR and LF", "ab\r\nc", 30, []int{2}}, {"CR and LF", "ab\r\nc", 29, []int{2, 4}},
		{"a blank with a mark", "ab \u0301cd", 20, []int{5}}, {"a blank with a mark", "ab \u0301cd", 50, []int{5}}, {"a mark that stands alone", "\u0301 a", 10, []int{3}}, {"a blank within a cluster", "\u0600 a", 20, []int{3}}, {"it is none", "x\u0600 ab", 40, []int{5}},
		{"from the right", "\u05D0\u05D1 \u05D2\u05D3", 30, []int{5}}, {"from the right", "\u05D0\u05D1\u05D2", 10, []int{2, 4}}, {"both directions", "ab \u05D0\u05D1", 40, []int{3}},
		{"bytes that are no part of a rune", "\xFF\xE2\x80a", 20, []int{2}}, {"bytes that are no part of a rune", "a\xFF b", 20, []int{3}},
	})
}

func TestWrapByWidths(t *testing.T) {
	for _, c := range []struct {
		what, text string
		widths     []int
		room       int
		want       []int
	}{
		{"too few", "ab", []int{1}, 0, nil}, {"none", "ab", nil, 0, nil}, {"too many", "ab", []int{1, 1, 1}, 0, nil}, {"of no bytes too many", "", []int{1}, 0, nil}, {"just as many", "ab", []int{1, 1}, 0, []int{1}},
		{"by clusters", "e\u0301e\u0301", []int{9, 9}, 0, nil}, {"by bytes", "\u05D0\u05D1", []int{9, 9, 9, 9}, 0, nil}, {"by bytes that are no part of a rune", "\xE2\x80", []int{9, 9}, 0, []int{1}}, {"too few of these", "\xE2\x80", []int{9}, 0, nil},
		{"without a width", "abc", []int{0, 0, 0}, 0, nil}, {"without a width, room below 0", "abc", []int{0, 0, 0}, -1, []int{1, 2}}, {"without a width, the least room", "a b", []int{0, 0, 0}, math.MinInt, []int{2}}, {"without a width, behind too wide a one", "abc", []int{5, 0, 0}, 4, []int{1}}, {"without a width, at the room", "abc", []int{4, 0, 0}, 4, nil}, {"marks without a width", "e\u0301e\u0301", []int{5, 0, 5, 0}, 10, nil},
		{"below 0", "abc", []int{-9, 5, 5}, 9, []int{2}}, {"below 0", "abc", []int{5, -9, 5}, 9, []int{2}}, {"below 0", "abc", []int{-1, -1, -1}, 0, nil}, {"below 0, room below 0", "abc", []int{-5, -5, -5}, -1, []int{1, 2}}, {"the least one", "abc", []int{math.MinInt, math.MinInt, 5}, 4, []int{2}}, {"below 0 in a cluster", "ae\u0301", []int{5, 5, -9}, 9, []int{1}},
		{"2^30", "ab", []int{1 << 30, 1 << 30}, 1 << 31, nil}, {"2^30", "ab", []int{1 << 30, 1 << 30}, 1<<31 - 1, []int{1}}, {"above 2^30", "ab", []int{1<<30 + 1, 1<<30 + 1}, 1 << 31, nil}, {"above 2^30", "ab", []int{1<<30 + 1, 1<<30 + 1}, 1<<31 - 1, []int{1}},
		{"the greatest one", "abc", []int{math.MaxInt, math.MaxInt, math.MaxInt}, 1 << 31, []int{2}}, {"the greatest one", "abc", []int{math.MaxInt, math.MaxInt, math.MaxInt}, 3 << 30, nil}, {"the greatest one, no room", "abc", []int{math.MaxInt, math.MaxInt, math.MaxInt}, 0, []int{1, 2}}, {"the greatest one, the greatest room", "abc", []int{math.MaxInt, math.MaxInt, math.MaxInt}, math.MaxInt, nil}, {"2^32", "ab", []int{1 << 32, 1 << 32}, 1 << 30, []int{1}},
		{"the least and the greatest one", "abc", []int{-9, 1 << 62, 5}, 1<<30 + 5, nil}, {"the least and the greatest one", "abc", []int{-9, 1 << 62, 5}, 1<<30 + 4, []int{2}}, {"in a cluster", "ae\u0301", []int{0, math.MaxInt, math.MaxInt}, 1<<31 - 1, []int{1}}, {"in a cluster", "ae\u0301", []int{0, math.MaxInt, math.MaxInt}, 1 << 31, nil},
		{"a wide blank", "a b", []int{1, math.MaxInt, 1}, 1 << 30, []int{2}}, {"a blank without a width", "a b", []int{1, 0, 1}, 2, nil}, {"a blank below 0", "a b", []int{2, -2, 2}, 3, []int{2}},
	} {
		was := slices.Clone(c.widths)
		if got := caret.Wrap(c.text, c.widths, c.room); !slices.Equal(got, c.want) {
			t.Errorf("P26: %s: Wrap(%+q, %v, %d) = %v, want %v", c.what, c.text, c.widths, c.room, got, c.want)
		}
		if !slices.Equal(c.widths, was) {
			t.Errorf("P2: %s: Wrap made %v of %v", c.what, c.widths, was)
		}
	}
}

// Beside widths that do not fit, and where there is no break, there is no list at all.
func TestWrapAnswersNil(t *testing.T) {
	for _, got := range [][]int{caret.Wrap("ab", []int{1}, 0), caret.Wrap("ab", []int{1, 1, 1}, 0), caret.Wrap("ab", nil, 0), caret.Wrap("", []int{1}, 0), caret.Wrap("", nil, 0), caret.Wrap("ab", []int{1, 1}, 2)} {
		if got != nil {
			t.Errorf("P26: %v, want nil", got)
		}
	}
}

// checkEvenly: breaks that stand at this many bytes, at twice as many, and so on.
func checkEvenly(t *testing.T, what string, got []int, by, count int) {
	t.Helper()
	if len(got) != count {
		t.Errorf("P26: %s: %d breaks, want %d", what, len(got), count)
	}
	for i, b := range got {
		if b != (i+1)*by {
			t.Fatalf("P26: %s: break %d at %d, want %d", what, i, b, (i+1)*by)
		}
	}
}

func TestWrapOfLongTexts(t *testing.T) {
	const count = 1 << 18
	letters, words := strings.Repeat("a", count), strings.Repeat("abc ", count/4)
	checkEvenly(t, "401 letters", caret.Wrap(letters[:401], tens(letters[:401]), 4000), 400, 1)
	checkEvenly(t, "letters", caret.Wrap(letters, tens(letters), 80), 8, count/8-1)
	checkEvenly(t, "letters without room", caret.Wrap(letters, tens(letters), math.MinInt), 1, count-1)
	checkEvenly(t, "letters and much room", caret.Wrap(letters, tens(letters), math.MaxInt), 0, 0)
	checkEvenly(t, "wide letters", caret.Wrap(letters, slices.Repeat([]int{math.MaxInt}, count), 1<<40), 1<<10, count>>10-1)
	checkEvenly(t, "words", caret.Wrap(words, tens(words), 35), 4, count/4-1)
	checkEvenly(t, "words", caret.Wrap(words, tens(words), 100), 8, count/8-1)
	checkEvenly(t, "one word and much room but for the last letter", caret.Wrap(" "+letters, tens(" "+letters), 10*count), 1, 1)
	checkEvenly(t, "blanks", caret.Wrap(strings.Repeat(" ", count), tens(letters), 0), 0, 0)
	marks := "a" + strings.Repeat("\u0301", count)
	checkEvenly(t, "long clusters", caret.Wrap(marks+marks+marks, tens(marks+marks+marks), 1), len(marks), 2)
}

// wrapByRules: P26, as its sentences go: at each cluster all of the line is summed up anew.
func wrapByRules(text string, widths []int, room int, known tables) []int {
	runes := []rune(text)
	if len(widths) != len(runes) {
		return nil
	}
	bounds := boundsByRules(text, known.kinds)
	number := func(cluster int) int { return len([]rune(text[:bounds[cluster]])) }
	blank := func(cluster int) bool { return known.classes[runes[number(cluster)]] == api.WS }
	fits := func(from, to int) bool {
		sum := new(big.Int)
		for _, width := range widths[number(from):number(to+1)] {
			sum.Add(sum, big.NewInt(int64(min(max(width, 0), 1<<30))))
		}
		return sum.Cmp(big.NewInt(int64(room))) <= 0
	}
	var breaks []int
	for from, next := 0, 0; next < len(bounds)-1; {
		if blank(next) || next == from || fits(from, next) {
			next++
			continue
		}
		end := next
		for end > from && !blank(end-1) {
			end--
		}
		if end == from {
			end = next
		}
		breaks = append(breaks, bounds[end])
		from, next = end, end
	}
	return breaks
}

func checkWrapByRules(t *testing.T, text string, widths []int, room int, known tables) {
	t.Helper()
	if got, want := caret.Wrap(text, widths, room), wrapByRules(text, widths, room, known); !slices.Equal(got, want) {
		t.Fatalf("P26: Wrap(%+q, %v, %d) = %v, want %v", text, widths, room, got, want)
	}
}

func TestWrapOfShortTexts(t *testing.T) {
	known := bothTables(t)
	for text := range allTexts([]string{"a", " ", "e\u0301", "\u05D0"}, 6) {
		widths := tens(text)
		for _, room := range []int{-1, 0, 10, 20, 25, 40} {
			checkWrapByRules(t, text, widths, room, known)
		}
	}
}

func TestWrapOfManyTexts(t *testing.T) {
	known := bothTables(t)
	d := dice(31)
	numbers := []int{math.MinInt, -1, 0, 0, 1, 2, 3, 10, 1 << 30, 1<<30 + 1, math.MaxInt}
	rooms := []int{math.MinInt, -1, 0, 1, 3, 10, 12, 30, 1 << 30, 1<<30 + 9, 1 << 31, 5 << 30, math.MaxInt}
	for _, parts := range [][]string{runners, pieces, {"a", "b", "\u05D0", " "}, {"a", "e\u0301", " ", " ", "\u2028", " \u0301"}} {
		for range 300 {
			text := d.text(parts, 30)
			var widths []int
			for range []rune(text) {
				widths = append(widths, numbers[2+d.below(6)])
				if d.below(8) == 0 {
					widths[len(widths)-1] = numbers[d.below(len(numbers))]
				}
			}
			for _, room := range rooms {
				checkWrapByRules(t, text, widths, room, known)
			}
			checkWrapByRules(t, text, append(widths, 1), 10, known)
		}
	}
}

// What Wrap answers, New takes for breaks.
func TestWrapFitsNew(t *testing.T) {
	known := bothTables(t)
	d := dice(37)
	for range 300 {
		s := d.anySetup(without(runners, known), 40, true, known)
		for _, room := range []int{-1, 0, 5, 20, math.MaxInt} {
			s.Breaks = caret.Wrap(s.Text, s.Widths, room)
			lay(t, s)
		}
	}
}
