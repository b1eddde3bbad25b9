package caret_test

import (
	"slices"
	"strings"
	"testing"

	"caret/api"
	"caret/caret"
)

// lining: words as set takes them; the level of each cluster, and of each line its visual order, with | between lines.
type lining struct {
	words  string
	base   int
	levels string
	orders string
}

func levelsOf(l *caret.Layout) []int {
	out := []int{}
	for _, c := range l.Clusters() {
		out = append(out, c.Level)
	}
	return out
}

func (c lining) check(t *testing.T, what string) {
	t.Helper()
	s := set(c.words, c.base)
	l := lay(t, s)
	if got := levelsOf(l); !slices.Equal(got, numbers(t, strings.ReplaceAll(c.levels, "|", ""))) {
		t.Errorf("P11: %s: %s, base %d: levels %v, want %s", what, c.words, c.base, got, c.levels)
	}
	orders := strings.Split(c.orders, "|")
	lines := l.Lines()
	if len(lines) != len(orders) {
		t.Fatalf("P10: %s: %s: %d lines, want %d", what, c.words, len(lines), len(orders))
	}
	edges := slices.Concat([]int{0}, s.Breaks, []int{len(s.Text)})
	for i, line := range lines {
		if line.From != edges[i] || line.To != edges[i+1] {
			t.Errorf("P10: %s: %s: line %d from %d to %d, want %d to %d", what, c.words, i, line.From, line.To, edges[i], edges[i+1])
		}
		if !slices.Equal(line.Order, numbers(t, orders[i])) {
			t.Errorf("P12: %s: %s, base %d: line %d is %v, want %s", what, c.words, c.base, i, line.Order, orders[i])
		}
	}
}

func checkLines(t *testing.T, what string, cases []lining) {
	t.Helper()
	for _, c := range cases {
		c.check(t, what)
	}
}

func TestLinesOfTheExamples(t *testing.T) {
	checkLines(t, "the document's examples", []lining{
		{"a b R R", 0, "0 0 1 1", "0 1 3 2"},
		{"R R 1 2", 0, "1 1 2 2", "2 3 1 0"},
		{"a ( R ) b", 0, "0 0 1 0 0", "0 1 2 3 4"},
		{"R + 1", 0, "1 1 2", "2 1 0"},
	})
}

func TestOneLine(t *testing.T) {
	checkLines(t, "one direction", []lining{
		{"", 0, "", ""}, {"", 1, "", ""}, {"", 2, "", ""},
		{"L", 0, "0", "0"}, {"L", 1, "2", "0"}, {"R", 0, "1", "0"}, {"R", 1, "1", "0"},
		{"L L L", 0, "0 0 0", "0 1 2"}, {"L L L", 1, "2 2 2", "0 1 2"}, {"L L L", 2, "0 0 0", "0 1 2"},
		{"R R R", 0, "1 1 1", "2 1 0"}, {"R R R", 1, "1 1 1", "2 1 0"}, {"AL AL AL", 2, "1 1 1", "2 1 0"},
	})
	checkLines(t, "both directions", []lining{
		{"L WS R", 0, "0 0 1", "0 1 2"}, {"L WS R", 1, "2 1 1", "2 1 0"}, {"R WS L", 2, "1 1 2", "2 1 0"}, {"L WS R", 2, "0 0 1", "0 1 2"},
		{"L L R R L L", 0, "0 0 1 1 0 0", "0 1 3 2 4 5"}, {"L L R R L L", 1, "2 2 1 1 2 2", "4 5 3 2 0 1"},
		{"R WS L L WS R", 1, "1 1 2 2 1 1", "5 4 2 3 1 0"}, {"R EN EN L", 0, "1 2 2 0", "1 2 0 3"},
		{"R R L R R", 0, "1 1 0 1 1", "1 0 2 4 3"},
	})
	checkLines(t, "deep", []lining{
		{"RLE R LRE L RLE R", 0, "0 1 1 2 2 3", "0 3 4 5 2 1"},
		{"LRE*4 L R EN AN", 0, "0 0 0 0 8 9 10 10", "0 1 2 3 4 6 7 5"},
		{"RLE*5 R EN AN L", 0, "0 0 0 0 0 9 10 10 10", "0 1 2 3 4 6 7 8 5"},
		{"LRE*4 R R", 1, "1 1 1 1 9 9", "5 4 3 2 1 0"},
		{"LRE L RLE R L R", 1, "1 2 2 3 4 3", "1 2 5 4 3 0"},
	})
}

func TestSeveralLines(t *testing.T) {
	checkLines(t, "each by itself", []lining{
		{"L L | L L", 0, "0 0 | 0 0", "0 1 | 2 3"}, {"R R | R R", 0, "1 1 | 1 1", "1 0 | 3 2"}, {"R R | R R", 1, "1 1 | 1 1", "1 0 | 3 2"},
		{"L R | R L", 0, "0 1 | 1 0", "0 1 | 2 3"}, {"L R | R L", 1, "2 1 | 1 2", "1 0 | 3 2"}, {"L L | L L", 1, "2 2 | 2 2", "0 1 | 2 3"},
		{"L | R | EN", 0, "0 | 1 | 2", "0 | 1 | 2"}, {"R EN | EN R", 0, "1 2 | 2 1", "1 0 | 3 2"}, {"L R R | R R L", 0, "0 1 1 | 1 1 0", "0 2 1 | 4 3 5"},
	})
	checkLines(t, "levels are those of the whole text", []lining{
		{"R | 1", 0, "1 | 2", "0 | 1"}, {"L | R ( | L )", 2, "0 | 1 0 | 0 0", "0 | 1 2 | 3 4"}, {"R | L L | L", 2, "1 | 2 2 | 2", "0 | 1 2 | 3"},
		{"R LRI L | L PDI R", 0, "1 1 2 | 2 1 1", "2 1 0 | 5 4 3"}, {"RLO L | L | L", 0, "0 1 | 1 | 1", "0 1 | 2 | 3"}, {"AL | EN CS EN | L", 0, "1 | 2 2 2 | 0", "0 | 1 2 3 | 4"},
	})
	checkLines(t, "what ends a line", []lining{
		{"R WS | R", 0, "1 0 | 1", "0 1 | 2"}, {"R | WS R", 0, "1 | 1 1", "0 | 2 1"}, {"R WS WS | WS R", 0, "1 0 0 | 1 1", "0 1 2 | 4 3"}, {"R WS | WS | R", 0, "1 0 | 0 | 1", "0 1 | 2 | 3"},
		{"L WS | L", 1, "2 1 | 2", "1 0 | 2"}, {"L | WS L", 1, "2 | 2 2", "0 | 1 2"}, {"R LRI | L PDI R", 0, "1 0 | 2 1 1", "0 1 | 4 3 2"}, {"R LRI L PDI | R", 0, "1 1 2 0 | 1", "2 1 0 3 | 4"},
		{"R WS ON | R", 0, "1 1 1 | 1", "2 1 0 | 3"}, {"R ON WS | R", 0, "1 1 0 | 1", "1 0 2 | 3"}, {"R WS BN WS | R", 0, "1 0 0 0 | 1", "0 1 2 3 | 4"}, {"R WS S | R", 0, "1 0 0 | 1", "0 1 2 | 3"},
	})
}

// Within an override each of them has the level 1, were it not for what stands behind.
func TestWhatEndsALineHasTheParagraphsLevel(t *testing.T) {
	for _, class := range []string{"WS", "LRI", "RLI", "FSI", "PDI", "BN", "LRE", "RLE", "LRO", "RLO", "PDF"} {
		checkLines(t, class, []lining{
			{"RLO L " + class, 0, "0 1 0", "0 1 2"}, {"LRO R " + class, 1, "1 2 1", "2 1 0"},
			{"RLO L " + class + " S", 0, "0 1 0 0", "0 1 2 3"}, {"LRO R " + class + " S", 1, "1 2 1 1", "3 2 1 0"},
			{"RLO L " + class + " B", 0, "0 1 0 0", "0 1 2 3"}, {"LRO R " + class + " B", 1, "1 2 1 1", "3 2 1 0"},
			{"RLO L WS " + class + " BN S", 0, "0 1 0 0 0 0", "0 1 2 3 4 5"}, {"RLO L BN " + class + " PDI", 0, "0 1 0 0 0", "0 1 2 3 4"},
			{"RLO L PDI " + class + " WS B", 0, "0 1 0 0 0 0", "0 1 2 3 4 5"}, {class + " S", 1, "1 1", "1 0"},
		})
		for _, behind := range []string{"L", "R", "ON S", "EN", "ON", "CS B", "NSM S", "| L"} {
			want := 1
			if behind == "| L" {
				want = 0
			}
			s := set("RLO L "+class+" "+behind, 0)
			if got := levelsOf(lay(t, s))[2]; got != want {
				t.Errorf("P10: %s ahead of %s: level %d, want %d", class, behind, got, want)
			}
		}
	}
	for _, class := range []string{"L", "R", "AL", "EN", "ES", "ET", "AN", "CS", "ON"} {
		checkLines(t, "goes with no end: "+class, []lining{
			{"RLO L " + class, 0, "0 1 1", "0 2 1"}, {"RLO L WS " + class + " WS", 0, "0 1 1 1 0", "0 3 2 1 4"}, {"RLO L " + class + " S", 0, "0 1 1 0", "0 2 1 3"},
		})
	}
}

func TestTabsAndEndsOfParagraphs(t *testing.T) {
	for _, tab := range []string{"\t", "\v", "\x1F"} {
		for _, c := range []struct {
			text string
			base int
			want string
		}{
			{"\u05D0" + tab + "\u05D1", 0, "1 0 1"}, {"a" + tab + "b", 1, "2 1 2"}, {"\u05D0 " + tab + " \u05D1", 0, "1 0 0 1 1"}, {"\u202Ea" + tab + "b", 0, "0 1 0 1"},
			{"\u05D0" + tab + tab + "\u05D1", 0, "1 0 0 1"}, {"\u05D0" + tab + "\u200B\u05D1", 0, "1 0 1 1"}, {tab, 1, "1"},
		} {
			if got := levelsOf(lay(t, broken(c.text, c.base))); !slices.Equal(got, numbers(t, c.want)) {
				t.Errorf("P10: %+q, base %d: levels %v, want %s", c.text, c.base, got, c.want)
			}
		}
	}
	for _, end := range []string{"\n", "\r", "\r\n", "\x1C", "\x1D", "\x1E", "\u0085", "\u2029"} {
		for _, c := range []struct {
			text string
			base int
			want string
		}{
			{end, 0, "0"}, {end, 1, "1"}, {"\u05D0" + end, 0, "1 0"}, {"a" + end, 1, "2 1"}, {"\u202Ea" + end, 0, "0 1 0"}, {"\u202Ea \u2069" + end, 0, "0 1 0 0 0"}, {"\u202Ea!" + end, 0, "0 1 1 0"},
		} {
			if got := levelsOf(lay(t, broken(c.text, c.base))); !slices.Equal(got, numbers(t, c.want)) {
				t.Errorf("P10: %+q, base %d: levels %v, want %s", c.text, c.base, got, c.want)
			}
		}
	}
}

func TestAClusterHasTheLevelOfItsFirstRune(t *testing.T) {
	checkLines(t, "first rune", []lining{
		{"R NSM R", 0, "1 1", "1 0"}, {"L NSM R NSM NSM", 1, "2 1", "1 0"}, {"\u0600 L R", 0, "2 1", "1 0"}, {"L \u0600 L", 0, "0 2", "0 1"},
		{"R \u200D", 0, "1", "0"}, {"R \u200D | R", 0, "1 | 1", "0 | 1"}, {"R \u200D WS", 0, "1 0", "0 1"}, {"RLO L WS \u200D", 0, "0 1 0", "0 1 2"}, {"RLO L WS NSM", 0, "0 1 1", "0 2 1"},
		{"RLO L WS \u200D NSM", 0, "0 1 1", "0 2 1"}, {"RLO L WS NSM \u200D WS", 0, "0 1 1 0", "0 2 1 3"},
	})
}

func TestClustersHaveTheirBytesAndWidths(t *testing.T) {
	l := lay(t, api.Setup{Text: "e\u0301\u05D0\u05B0\u05D1x\xFF", Widths: []int{7, 2, 30, 0, 4, 500, 1000}})
	want := []api.Cluster{
		{From: 0, To: 3, Width: 9},
		{From: 3, To: 7, Level: 1, Width: 30},
		{From: 7, To: 9, Level: 1, Width: 4},
		{From: 9, To: 10, Width: 500},
		{From: 10, To: 11, Width: 1000},
	}
	if got := l.Clusters(); !slices.Equal(got, want) {
		t.Errorf("P11: %v, want %v", got, want)
	}
	if got := l.Lines()[0].X; !slices.Equal(got, []int64{0, 9, 13, 43, 543, 1543}) {
		t.Errorf("P12: X %v", got)
	}
	if got := lay(t, broken("", 1)).Clusters(); len(got) != 0 {
		t.Errorf("P11: of no bytes: %v", got)
	}
}

func TestEachLineBeginsAtItsLeft(t *testing.T) {
	l := lay(t, api.Setup{Text: "ab\u05D0\u05D1\u05D2c", Base: api.FromRight, Widths: []int{1, 2, 4, 8, 16, 0}, Breaks: []int{1, 6}})
	want := [][]int64{{0, 1}, {0, 8, 12, 14}, {0, 0, 16}}
	for i, line := range l.Lines() {
		if !slices.Equal(line.X, want[i]) {
			t.Errorf("P12: line %d: X %v, want %v", i, line.X, want[i])
		}
	}
	for base := range 3 {
		lines := lay(t, broken("", base)).Lines()
		if len(lines) != 1 || lines[0].From != 0 || lines[0].To != 0 || len(lines[0].Order) != 0 || !slices.Equal(lines[0].X, []int64{0}) {
			t.Errorf("P10: of no bytes: %v", lines)
		}
	}
}

func TestGreatWidthsDoNotWrapRound(t *testing.T) {
	many := api.Setup{Text: strings.Repeat("a", 400), Widths: slices.Repeat([]int{1 << 30}, 400)}
	line := lay(t, many).Lines()[0]
	if got := line.X[400]; got != 400<<30 {
		t.Errorf("P12: X at the end %d, want %d", got, int64(400<<30))
	}
	one := api.Setup{Text: "ab" + strings.Repeat("\u0301", 199), Widths: slices.Repeat([]int{1 << 30}, 201)}
	if got := lay(t, one).Clusters()[1].Width; got != 200<<30 {
		t.Errorf("P11: width %d, want %d", got, int64(200<<30))
	}
}
