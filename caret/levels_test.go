package caret_test

import (
	"math"
	"slices"
	"strconv"
	"strings"
	"testing"

	"caret/api"
	"caret/caret"
)

// leveling: a text as spell takes it, and the level that is wanted of each rune; the last number is the paragraph's.
type leveling struct {
	words string
	base  int
	want  string
}

func numbers(t *testing.T, words string) []int {
	list := []int{}
	for _, word := range strings.Fields(words) {
		n, err := strconv.Atoi(word)
		if err != nil {
			t.Fatal(err)
		}
		list = append(list, n)
	}
	return list
}

func checkLevels(t *testing.T, rule string, cases []leveling) {
	for _, c := range cases {
		c.check(t, rule, spell(c.words))
	}
}

func (c leveling) check(t *testing.T, rule, text string) {
	levels, paragraph, err := caret.Levels(text, c.base)
	if got := append(levels, paragraph); err != api.OK || !slices.Equal(got, numbers(t, c.want)) {
		t.Errorf("P7: %s: Levels(%s, %d) = %v, %d, want %s", rule, c.words, c.base, got, err, c.want)
	}
}

func TestLevelsOfTheExamples(t *testing.T) {
	checkLevels(t, "the document's examples", []leveling{
		{"a b R R", 0, "0 0 1 1 0"},
		{"R R 1 2", 0, "1 1 2 2 0"},
		{"a ( R ) b", 0, "0 0 1 0 0 0"},
		{"R + 1", 0, "1 1 2 0"},
	})
}

func TestLevelsOfOrdinaryTexts(t *testing.T) {
	checkLevels(t, "one direction", []leveling{
		{"", 0, "0"}, {"", 1, "1"}, {"", 2, "0"},
		{"L L WS L", 0, "0 0 0 0 0"}, {"L L WS L", 1, "2 2 2 2 1"}, {"L L WS L", 2, "0 0 0 0 0"},
		{"R R WS R", 0, "1 1 1 1 0"}, {"R R WS R", 1, "1 1 1 1 1"}, {"R R WS R", 2, "1 1 1 1 1"},
		{"AL AL WS AL", 0, "1 1 1 1 0"}, {"AL AL WS AL", 2, "1 1 1 1 1"},
	})
	checkLevels(t, "both directions", []leveling{
		{"L WS R WS R WS L", 0, "0 0 1 1 1 0 0 0"},
		{"L WS R WS R WS L", 1, "2 1 1 1 1 1 2 1"},
		{"R WS L WS L WS R", 0, "1 0 0 0 0 0 1 0"},
		{"R WS L WS L WS R", 2, "1 1 2 2 2 1 1 1"},
		{"R WS EN EN CS EN WS R", 2, "1 1 2 2 2 2 1 1 1"},
		{"L WS EN WS R ON", 2, "0 0 0 0 1 0 0"},
	})
}

func TestLevelsOfBytesThatAreNoPartOfARune(t *testing.T) {
	for _, c := range []struct {
		text string
		want string
	}{
		{"\xFF", "0"}, {"\u05D0\xFF\u05D1", "1 1 1"}, {"\u05D0\xE2\x80\u05D1", "1 1 1 1"}, {"\u05D0\xFFa", "1 0 0"},
		{"\u05D0\xFF", "1 0"}, {"\u05D0\uFFFD\xF0\x9F\u05D1", "1 1 1 1 1"}, {"\xE2\x81\u05D0", "0 0 1"},
	} {
		levels, paragraph, err := caret.Levels(c.text, api.FromLeft)
		if !slices.Equal(levels, numbers(t, c.want)) || paragraph != 0 || err != api.OK {
			t.Errorf("P7: Levels(%+q, 0) = %v, %d, %d, want %s", c.text, levels, paragraph, err, c.want)
		}
	}
}

func TestLevelsRefusesTextsAndBases(t *testing.T) {
	long := strings.Repeat("\u05D0", 200)
	for _, c := range []struct {
		text string
		base int
		want api.Errno
	}{
		{"", 0, api.OK}, {"", 1, api.OK}, {"", 2, api.OK},
		{"", 3, api.ErrBase}, {"", -1, api.ErrBase}, {"a", math.MinInt, api.ErrBase}, {"a", math.MaxInt, api.ErrBase}, {"a", 1 << 32, api.ErrBase},
		{strings.Repeat("a", 399), 2, api.OK}, {strings.Repeat("a", 400), 2, api.OK}, {strings.Repeat("a", 401), 2, api.ErrLong},
		{long, 0, api.OK}, {long + "a", 0, api.ErrLong}, {long + "\xFF", 0, api.ErrLong}, {long[1:] + "a", 0, api.OK}, {long[1:] + "ab", 0, api.ErrLong},
		{strings.Repeat("a", 1<<20), 0, api.ErrLong},
		{long, 3, api.ErrBase}, {long, -1, api.ErrBase}, {long + "a", 3, api.ErrLong}, {long + "a", -1, api.ErrLong},
	} {
		levels, paragraph, err := caret.Levels(c.text, c.base)
		if err != c.want {
			t.Errorf("P7: %d bytes, base %d: %d, want %d", len(c.text), c.base, err, c.want)
		}
		if err != api.OK && (levels != nil || paragraph != 0) {
			t.Errorf("P1: %d bytes, base %d: %v, %d beside an error", len(c.text), c.base, levels, paragraph)
		}
		if err == api.OK && len(levels) != len(caret.Decode(c.text)) {
			t.Errorf("P7: %d bytes: %d levels", len(c.text), len(levels))
		}
	}
}

func TestLevelsRule1Paragraph(t *testing.T) {
	checkLevels(t, "1: by the base", []leveling{
		{"L", 0, "0 0"}, {"L", 1, "2 1"}, {"R", 0, "1 0"}, {"R", 1, "1 1"},
	})
	checkLevels(t, "1: by the text", []leveling{
		{"L", 2, "0 0"}, {"R", 2, "1 1"}, {"AL", 2, "1 1"}, {"EN", 2, "0 0"}, {"AN", 2, "2 0"}, {"WS ON", 2, "0 0 0"},
		{"L R", 2, "0 1 0"}, {"R L", 2, "1 2 1"}, {"AL L", 2, "1 2 1"},
		{"WS EN NSM R L", 2, "1 2 2 1 2 1"},
		{"B R", 2, "1 1 1"}, {"L B R", 2, "0 0 1 0"},
	})
	checkLevels(t, "1: what is set apart does not count", []leveling{
		{"LRI L PDI R", 2, "1 2 1 1 1"}, {"RLI R PDI L", 2, "0 1 0 0 0"}, {"FSI R PDI L", 2, "0 1 0 0 0"},
		{"RLI R", 2, "0 1 0"}, {"FSI R", 2, "0 1 0"}, {"FSI R PDI", 2, "0 1 0 0"},
		{"LRI RLI L PDI L PDI R", 2, "1 2 4 2 2 1 1 1"},
		{"LRI LRI L PDI R", 2, "0 2 4 2 3 0"},
		{"LRI L PDI PDI R", 2, "1 2 1 1 1 1"},
		{"PDI R", 2, "1 1 1"},
	})
	checkLevels(t, "1: what is embedded does", []leveling{
		{"RLE L", 2, "0 2 0"}, {"LRE R PDF L", 2, "1 3 3 2 1"}, {"RLO L", 2, "0 1 0"}, {"LRO R", 2, "1 2 1"},
	})
}

func TestLevelsRule2Embeddings(t *testing.T) {
	checkLevels(t, "2: the next greater level", []leveling{
		{"RLE R", 0, "0 1 0"}, {"RLE L", 0, "0 2 0"}, {"LRE L", 0, "0 2 0"}, {"LRE R", 0, "0 3 0"},
		{"RLE R", 1, "1 3 1"}, {"LRE L", 1, "1 2 1"}, {"LRE R", 1, "1 3 1"},
		{"RLE R LRE L RLE R", 0, "0 1 1 2 2 3 0"}, {"LRE LRE L", 0, "0 0 4 0"}, {"RLE RLE R", 0, "0 0 3 0"},
	})
	checkLevels(t, "2: overrides", []leveling{
		{"RLO L EN ON NSM AN ES WS S", 0, "0 1 1 1 1 1 1 1 1 0"},
		{"LRO R AL AN EN ET CS", 0, "0 2 2 2 2 2 2 0"},
		{"LRO R", 1, "1 2 1"},
		{"RLO L PDF L", 0, "0 1 1 0 0"}, {"RLO RLE L", 0, "0 0 4 0"}, {"RLO RLE PDF L", 0, "0 0 0 1 0"},
		{"RLO L B", 0, "0 1 0 0"}, {"RLO L B L", 0, "0 1 1 1 0"},
		{"RLO L BN L", 0, "0 1 1 1 0"},
	})
	checkLevels(t, "2: ends of embeddings", []leveling{
		{"RLE R PDF L", 0, "0 1 1 0 0"}, {"RLE LRE L PDF R PDF L", 0, "0 0 2 2 1 1 0 0"},
		{"PDF R", 0, "0 1 0"}, {"PDF PDF L", 1, "1 1 2 1"}, {"RLE PDF PDF RLE R", 0, "0 0 0 0 1 0"},
	})
	checkLevels(t, "2: too deep", []leveling{
		{"LRE*4 L", 0, "0 0 0 0 8 0"}, {"LRE*5 L", 0, "0 0 0 0 0 8 0"},
		{"RLE*5 R", 0, "0 0 0 0 0 9 0"}, {"RLE*6 R", 0, "0 0 0 0 0 0 9 0"}, {"RLE*5 LRE L", 0, "0 0 0 0 0 0 10 0"},
		{"RLE*4 R", 1, "1 1 1 1 9 1"}, {"RLE*5 R", 1, "1 1 1 1 1 9 1"},
		{"LRE*4 RLE L", 0, "0 0 0 0 0 10 0"}, {"LRE*5 RLE L", 0, "0 0 0 0 0 0 8 0"}, {"LRE*5 PDF RLE L", 0, "0 0 0 0 0 0 0 10 0"},
		{"LRE*5 PDF L", 0, "0 0 0 0 0 0 8 0"}, {"LRE*5 PDF PDF L", 0, "0 0 0 0 0 0 0 6 0"}, {"LRE*7 PDF*4 L", 0, "0 0 0 0 0 0 0 0 0 0 0 6 0"},
		{"LRO*5 RLO L", 0, "0 0 0 0 0 0 8 0"}, {"LRO*4 RLO L", 0, "0 0 0 0 0 9 0"}, {"LRO*5 R", 0, "0 0 0 0 0 8 0"},
	})
}

func TestLevelsRule2Isolates(t *testing.T) {
	checkLevels(t, "2: isolates", []leveling{
		{"RLI R PDI L", 0, "0 1 0 0 0"}, {"RLI L PDI L", 0, "0 2 0 0 0"}, {"LRI L PDI R", 1, "1 2 1 1 1"}, {"RLI R PDI R", 1, "1 3 1 1 1"},
		{"LRI R", 0, "0 3 0"}, {"PDI R", 0, "0 1 0"}, {"R PDI R", 0, "1 1 1 0"}, {"RLI R PDI PDI R", 0, "0 1 0 0 1 0"},
		{"RLI LRI L PDI R PDI L", 0, "0 1 2 1 1 0 0 0"},
	})
	checkLevels(t, "2: FSI", []leveling{
		{"FSI R PDI", 0, "0 1 0 0"}, {"FSI AL PDI", 0, "0 1 0 0"}, {"FSI L PDI", 1, "1 2 1 1"}, {"FSI EN PDI", 1, "1 2 1 1"}, {"FSI AN PDI", 0, "0 4 0 0"},
		{"FSI R", 0, "0 1 0"}, {"FSI L", 1, "1 2 1"}, {"FSI PDI R", 1, "1 1 1 1"},
		{"FSI WS PDI R", 0, "0 2 0 1 0"}, {"FSI RLI R PDI L PDI", 0, "0 2 3 2 2 0 0"}, {"FSI LRI L PDI R PDI", 0, "0 1 2 1 1 0 0"},
		{"FSI LRI R PDI", 0, "0 2 5 2 0"}, {"FSI RLE L PDI", 0, "0 0 4 0 0"}, {"FSI B R PDI", 0, "0 0 1 0 0"},
	})
	checkLevels(t, "2: overrides and isolates", []leveling{
		{"RLO LRI L R PDI L PDF", 0, "0 1 2 3 1 1 1 0"}, {"RLO RLI L PDI", 0, "0 1 4 1 0"}, {"RLO PDI L", 0, "0 1 1 0"}, {"LRO RLI R PDI R", 1, "1 2 3 2 2 1"},
		{"RLO FSI L PDI", 0, "0 1 2 1 0"}, {"RLO FSI R PDI", 0, "0 1 3 1 0"},
		{"L RLO LRI L PDI PDF EN", 0, "0 0 1 2 1 1 2 0"},
	})
	checkLevels(t, "2: ends of isolates and of embeddings", []leveling{
		{"LRI LRE LRE L PDI L", 0, "0 0 0 6 0 0 0"}, {"LRI PDF L PDI", 0, "0 0 2 0 0"}, {"RLE LRI PDF L PDI R", 0, "0 1 1 2 1 1 0"},
		{"LRI LRE*4 PDI RLE L", 0, "0 0 0 0 0 0 0 2 0"}, {"RLE LRI LRE PDI PDF L", 0, "0 1 1 1 1 0 0"},
		{"RLE PDI R PDF L", 0, "0 1 1 1 0 0"},
	})
	checkLevels(t, "2: isolates too many", []leveling{
		{"LRI*4 L", 0, "0 2 4 6 8 0"}, {"LRI*5 L", 0, "0 2 4 6 8 8 0"}, {"RLI*5 R", 0, "0 1 3 5 7 9 0"}, {"RLI*6 R", 0, "0 1 3 5 7 9 9 0"},
		{"LRI*5 L PDI L", 0, "0 2 4 6 8 8 8 8 0"}, {"LRI*5 L PDI PDI L", 0, "0 2 4 6 8 8 8 6 6 0"}, {"LRI*6 PDI*4 L", 0, "0 2 4 6 8 8 8 8 6 4 4 0"},
		{"LRI*4 RLI RLI L", 0, "0 2 4 6 8 9 10 0"}, {"LRI*5 RLI L", 0, "0 2 4 6 8 8 8 0"}, {"LRI*5 PDI RLI L", 0, "0 2 4 6 8 8 8 10 0"},
		{"LRI*5 LRE PDI RLE L", 0, "0 2 4 6 8 8 8 8 10 0"}, {"LRI*5 RLE L", 0, "0 2 4 6 8 8 8 0"}, {"LRI*5 RLO L", 0, "0 2 4 6 8 8 8 0"},
		{"LRE*4 LRI PDF PDI L", 0, "0 0 0 0 8 8 8 8 0"}, {"LRE*5 RLI L PDI PDF RLI L", 0, "0 0 0 0 0 8 8 8 8 8 10 0"},
	})
}

func TestLevelsRule3Sequences(t *testing.T) {
	checkLevels(t, "3: go on behind what is set apart", []leveling{
		{"R LRI L PDI R", 0, "1 1 2 1 1 0"}, {"R LRI L PDI EN", 0, "1 1 2 1 2 0"}, {"AL LRI L PDI EN CS EN", 0, "1 1 2 1 2 2 2 0"},
		{"R LRI PDI R", 0, "1 1 1 1 0"}, {"R LRI L PDI LRI L PDI R", 0, "1 1 2 1 1 2 1 1 0"},
		{"R LRI L R LRI L PDI R L PDI R", 0, "1 1 2 3 3 4 3 3 2 1 1 0"},
	})
	checkLevels(t, "3: not where the partner is not the first of its run, or the initiator not the last", []leveling{
		{"R RLI R B PDI R", 0, "1 0 1 1 1 1 0"}, {"R RLI B R PDI EN", 0, "1 1 1 1 1 2 0"}, {"L RLI B R PDI EN", 0, "0 0 0 1 1 2 0"},
	})
	checkLevels(t, "3: Before", []leveling{
		{"EN", 0, "0 0"}, {"RLE L PDF EN", 0, "0 2 2 2 0"}, {"LRE L PDF EN", 0, "0 2 2 0 0"}, {"BN EN", 0, "0 0 0"},
		{"L LRE PDF EN", 0, "0 0 0 0 0"}, {"RLE L PDF RLE PDF EN", 0, "0 2 2 2 2 2 0"},
		{"R RLI EN", 0, "1 0 2 0"}, {"R LRI EN", 0, "1 0 2 0"}, {"RLE R LRE EN", 0, "0 1 1 2 0"},
	})
	checkLevels(t, "3: Behind", []leveling{
		{"R ON", 0, "1 0 0"}, {"R ON", 1, "1 1 1"}, {"R ON RLE L", 0, "1 1 1 2 0"}, {"R ON LRE R", 0, "1 0 0 3 0"}, {"L ON BN", 1, "2 1 1 1"},
		{"R RLI R", 0, "1 0 1 0"}, {"R RLI R PDI", 0, "1 0 1 0 0"}, {"L LRI L", 1, "2 1 2 1"},
	})
}

func TestLevelsRule4Weak(t *testing.T) {
	checkLevels(t, "4: NSM", []leveling{
		{"R NSM", 0, "1 1 0"}, {"NSM R", 0, "0 1 0"}, {"NSM R", 1, "1 1 1"}, {"NSM", 1, "1 1"}, {"EN NSM", 1, "2 2 1"}, {"R EN NSM NSM", 0, "1 2 2 2 0"},
		{"AL NSM EN CS EN", 0, "1 1 2 2 2 0"}, {"AL ON NSM EN", 0, "1 1 1 2 0"}, {"R AN NSM CS NSM AN", 0, "1 2 2 1 1 2 0"}, {"R ET NSM EN", 0, "1 2 2 2 0"},
		{"R LRI L PDI NSM L", 0, "1 0 2 0 0 0 0"}, {"R LRI NSM L PDI", 0, "1 0 2 2 0 0"}, {"R PDI NSM NSM R", 0, "1 1 1 1 1 0"},
		{"R BN NSM", 0, "1 1 1 0"}, {"L NSM", 1, "2 2 1"},
	})
	checkLevels(t, "4: EN behind AL", []leveling{
		{"AL EN CS EN", 0, "1 2 2 2 0"}, {"AL EN ES EN", 0, "1 2 1 2 0"}, {"AL EN ET", 0, "1 2 0 0"}, {"R EN ET", 0, "1 2 2 0"},
		{"AL L EN", 0, "1 0 0 0"}, {"AL R EN ES EN", 0, "1 1 2 2 2 0"}, {"AL WS AN WS EN ES EN", 0, "1 1 2 1 2 1 2 0"}, {"R AL EN ES EN", 0, "1 1 2 1 2 0"},
		{"AL ET EN", 0, "1 1 2 0"},
	})
	checkLevels(t, "4: AL", []leveling{{"AL ON R", 0, "1 1 1 0"}, {"AL WS L", 1, "1 1 2 1"}, {"AL", 1, "1 1"}})
	checkLevels(t, "4: separators", []leveling{
		{"R EN ES EN", 0, "1 2 2 2 0"}, {"R EN CS EN", 0, "1 2 2 2 0"}, {"R AN CS AN", 0, "1 2 2 2 0"}, {"R AN ES AN", 0, "1 2 1 2 0"},
		{"R EN ES ES EN", 0, "1 2 1 1 2 0"}, {"R EN CS CS EN", 0, "1 2 1 1 2 0"}, {"R EN CS ES EN", 0, "1 2 1 1 2 0"}, {"R AN CS CS AN", 0, "1 2 1 1 2 0"},
		{"R EN CS AN", 0, "1 2 1 2 0"}, {"R AN CS EN", 0, "1 2 1 2 0"}, {"R EN ES EN CS EN", 0, "1 2 2 2 2 2 0"}, {"R CS EN", 0, "1 1 2 0"}, {"R EN CS", 0, "1 2 0 0"},
		{"R EN ES R", 0, "1 2 1 1 0"}, {"EN ES EN", 1, "2 2 2 1"},
	})
	checkLevels(t, "4: ET", []leveling{
		{"R ET EN", 0, "1 2 2 0"}, {"R ET ET EN", 0, "1 2 2 2 0"}, {"R EN ET ET", 0, "1 2 2 2 0"}, {"R EN ET EN", 0, "1 2 2 2 0"}, {"R ET AN", 0, "1 1 2 0"}, {"R AN ET", 0, "1 2 0 0"},
		{"R ET WS EN", 0, "1 1 1 2 0"}, {"R ET", 0, "1 0 0"}, {"R ET ET R", 0, "1 1 1 1 0"}, {"R EN ES ET EN", 0, "1 2 1 2 2 0"}, {"R ET ON ET EN", 0, "1 1 1 2 2 0"},
		{"R EN ET BN ET", 0, "1 2 2 2 2 0"},
	})
	checkLevels(t, "4: other ES, ET, CS", []leveling{
		{"L ES R", 0, "0 0 1 0"}, {"R ES R", 0, "1 1 1 0"}, {"R CS R", 0, "1 1 1 0"}, {"L CS L", 1, "2 2 2 1"}, {"L ET L", 1, "2 2 2 1"}, {"R ES CS ET R", 0, "1 1 1 1 1 0"},
	})
	checkLevels(t, "4: EN behind L", []leveling{
		{"L EN", 0, "0 0 0"}, {"EN", 0, "0 0"}, {"R EN", 0, "1 2 0"}, {"L WS EN WS R", 1, "2 2 2 1 1 1"}, {"L AN EN", 0, "0 2 0 0"}, {"R L EN", 0, "1 0 0 0"}, {"L R EN", 0, "0 1 2 0"},
		{"L ET EN ES EN", 0, "0 0 0 0 0 0"},
	})
}

func TestLevelsRule5Brackets(t *testing.T) {
	checkLevels(t, "5: a strong of its own direction", []leveling{
		{"R ( L ) R", 0, "1 0 0 0 1 0"}, {"R ( L R ) R", 0, "1 0 0 1 0 1 0"}, {"R ( R L ) R", 0, "1 0 1 0 0 1 0"}, {"L ( R ) L", 1, "2 1 1 1 2 1"}, {"L ( L R ) L", 1, "2 1 2 1 1 2 1"},
		{"L ( AN ) L", 1, "2 1 2 1 2 1"},
	})
	checkLevels(t, "5: a strong of the other one", []leveling{
		{"L ( R ) R", 0, "0 0 1 0 1 0"}, {"R ( R ) L", 0, "1 1 1 1 0 0"}, {"R ( EN ) L", 0, "1 1 2 1 0 0"}, {"R ( AN ) L", 0, "1 1 2 1 0 0"}, {"AN ( R ) L", 0, "2 1 1 1 0 0"},
		{"( R ) R", 0, "0 1 0 1 0"}, {"R ( L ) L", 1, "1 1 2 1 2 1"}, {"L ( L ) R", 1, "2 2 2 2 1 1"}, {"( L ) L", 1, "1 2 1 2 1"}, {"L WS ( L ) R", 1, "2 2 2 2 2 1 1"},
		{"RLE L PDF ( R ) L", 0, "0 2 2 1 1 1 0 0"}, {"R EN ( R ) L", 0, "1 2 1 1 1 0 0"},
	})
	checkLevels(t, "5: no strong", []leveling{
		{"R ( ) L", 0, "1 0 0 0 0"}, {"R ( WS ) R", 0, "1 1 1 1 1 0"}, {"L ( ON ) R", 1, "2 1 1 1 1 1"}, {"R ( LRI L PDI ) R", 0, "1 1 1 2 1 1 1 0"},
	})
	checkLevels(t, "5: brackets within brackets", []leveling{
		{"R ( L [ R ] ) R", 0, "1 0 0 0 1 0 0 1 0"}, {"R ( [ R ] L ) R", 0, "1 0 0 1 0 0 0 1 0"}, {"R ( [ R ] ) L", 0, "1 1 1 1 1 1 0 0"}, {"L ( ( R ) ) R", 0, "0 0 0 1 0 0 1 0"},
		{"R ( R ) ( L ) [ R ] R", 0, "1 1 1 1 0 0 0 0 1 0 1 0"}, {"R ( ( R ) L", 0, "1 1 1 1 1 0 0"}, {"L ( R ( R ) R", 0, "0 0 1 1 1 1 1 0"}, {"L ( R ) R ) R", 0, "0 0 1 0 1 1 1 0"},
	})
	checkLevels(t, "5: what does not match", []leveling{
		{"L [ R ) ] R", 0, "0 0 1 0 0 1 0"}, {"R ( [ R ) ] L", 0, "1 1 1 1 1 0 0 0"}, {"L ( R ] R", 0, "0 0 1 1 1 0"}, {"L ) R ( R", 0, "0 0 1 1 1 0"},
		{"L \u3008 R \u300B R", 0, "0 0 1 1 1 0"}, {"L \u300A R \u3009 R", 0, "0 0 1 1 1 0"}, {"L < R > R", 0, "0 0 1 1 1 0"}, {"L \u2329 R \u232A R", 0, "0 0 1 0 1 0"}, {"L ( R ( R", 0, "0 0 1 1 1 0"},
	})
	for _, pair := range []string{"( R )", "[ R ]", "{ R }", "\u3008 R \u3009", "\u300A R \u300B"} {
		checkLevels(t, "5: each pair", []leveling{{"L " + pair + " R", 0, "0 0 1 0 1 0"}, {"R " + pair + " L", 0, "1 1 1 1 0 0"}})
	}
	checkLevels(t, "5: only ON, and in one sequence", []leveling{
		{"LRO ( PDF LRE R ) R", 0, "0 2 2 2 3 3 3 0"}, {"LRE ( R LRO ) PDF PDF R", 0, "0 2 3 3 4 4 4 1 0"},
		{"L ( LRI R ) PDI R", 0, "0 0 0 3 2 0 1 0"}, {"L ( LRI R PDI R ) R", 0, "0 0 0 3 0 1 0 1 0"}, {"L ( RLE L PDF R ) R", 0, "0 0 0 2 2 1 1 1 0"},
		{"L ( LRI L ( R ) R PDI R ) R", 0, "0 0 0 2 2 3 2 3 0 1 0 1 0"},
	})
	checkLevels(t, "5: marks", []leveling{
		{"R ( R ) NSM L", 0, "1 1 1 1 1 0 0"}, {"R ( R ) NSM BN NSM L", 0, "1 1 1 1 1 1 1 0 0"}, {"R ( R ) WS NSM L", 0, "1 1 1 1 0 0 0 0"}, {"R ( R ) NSM ON NSM L", 0, "1 1 1 1 1 0 0 0 0"},
		{"L ( L ) NSM R", 1, "2 2 2 2 2 1 1"}, {"R ( NSM R ) L", 0, "1 1 1 1 1 0 0"}, {"R ( ) NSM L", 0, "1 0 0 0 0 0"},
		{"RLE L ( L ) PDF RLO NSM", 0, "0 2 2 2 2 2 2 2 0"},
	})
}

func TestLevelsRule5ManyBrackets(t *testing.T) {
	checkLevels(t, "5: eight at one time", []leveling{
		{"L (*7 R ) R", 0, "0 0 0 0 0 0 0 0 1 0 1 0"},
		{"L (*8 R ) R", 0, "0 0 0 0 0 0 0 0 0 1 0 1 0"},
		{"L (*9 R ) R", 0, "0 0 0 0 0 0 0 0 0 0 1 1 1 0"},
		{"L ( [ { \u3008 \u300A ( [ { R } R", 0, "0 0 0 0 0 0 0 0 0 1 0 1 0"},
		{"L ( [ { \u3008 \u300A ( [ { ( R ) R", 0, "0 0 0 0 0 0 0 0 0 0 1 1 1 0"},
		{"L ( [*7 ) (*8 R ) R", 0, "0 0 0 0 0 0 0 0 0 0 0 0 0 0 0 0 0 0 1 0 1 0"},
		{"L (*8 ) (*1 R ) R", 0, "0 0 0 0 0 0 0 0 0 0 0 1 0 1 0"},
		{"L (*8 ] (*1 R ) R", 0, "0 0 0 0 0 0 0 0 0 0 0 1 1 1 0"},
	})
	checkLevels(t, "5: what was found ahead of the ninth stays", []leveling{
		{"L ( R ) R (*9 R ) R", 0, "0 0 1 0 1 1 1 1 1 1 1 1 1 1 1 1 1 0"},
		{"R (*8 L ) (*2 R ) R", 0, "1 0 0 0 0 0 0 0 0 0 0 0 0 1 1 1 0"},
	})
	checkLevels(t, "5: each sequence by itself", []leveling{
		{"(*5 LRI L (*5 R ) R", 0, "0 0 0 0 0 0 2 2 2 2 2 2 3 2 3 0"},
	})
	text := strings.Repeat("a(\u05D0)\u05D0", 57)
	levels, _, err := caret.Levels(text, api.FromLeft)
	if err != api.OK || !slices.Equal(levels, slices.Repeat([]int{0, 0, 1, 0, 1}, 57)) {
		t.Errorf("P7: 5: many pairs, one behind the other: %v, %d", levels, err)
	}
}

func TestLevelsRule6Neutrals(t *testing.T) {
	for _, class := range []string{"B", "S", "WS", "ON", "PDI"} {
		checkLevels(t, "6: each class", []leveling{
			{"R " + class + " R", 0, "1 1 1 0"}, {"L " + class + " R", 0, "0 0 1 0"}, {"R " + class + " L", 0, "1 0 0 0"}, {"L " + class + " L", 1, "2 2 2 1"}, {"L " + class + " R", 1, "2 1 1 1"},
			{"R " + class + " EN", 0, "1 1 2 0"}, {"AN " + class + " AN", 0, "2 1 2 0"}, {"L " + class + " AN", 0, "0 0 2 0"}, {"AN " + class + " R", 0, "2 1 1 0"},
			{class + " R", 0, "0 1 0"}, {class + " R", 1, "1 1 1"}, {class + " L", 1, "1 2 1"}, {"R " + class, 0, "1 0 0"}, {"L " + class, 1, "2 1 1"}, {class, 0, "0 0"}, {class, 1, "1 1"},
		})
	}
	for _, class := range []string{"LRI", "FSI"} {
		checkLevels(t, "6: initiators", []leveling{
			{"R " + class + " L PDI R", 0, "1 1 2 1 1 0"}, {"L " + class + " L PDI R", 0, "0 0 2 0 1 0"}, {"L " + class + " L PDI L", 1, "2 2 2 2 2 1"}, {"R " + class + " L", 0, "1 0 2 0"},
		})
	}
	checkLevels(t, "6: together", []leveling{
		{"R WS ON S B WS R", 0, "1 1 1 1 1 1 1 0"}, {"R WS ON S B WS L", 0, "1 0 0 0 0 0 0 0"}, {"R WS BN ON R", 0, "1 1 1 1 1 0"}, {"RLE L WS L WS R", 0, "0 2 2 2 1 1 0"},
	})
}

func TestLevelsRule7Growth(t *testing.T) {
	checkLevels(t, "7: even", []leveling{
		{"L R EN AN", 0, "0 1 2 2 0"}, {"LRE L R EN AN", 0, "0 2 3 4 4 0"}, {"LRE*4 L R EN AN", 0, "0 0 0 0 8 9 10 10 0"},
	})
	checkLevels(t, "7: odd", []leveling{
		{"L R EN AN", 1, "2 1 2 2 1"}, {"RLE R L AN", 1, "1 3 4 4 1"}, {"RLE*5 R EN AN L", 0, "0 0 0 0 0 9 10 10 10 0"},
	})
}

func TestLevelsRule8PassedOver(t *testing.T) {
	for _, class := range []string{"BN", "LRE", "RLE", "LRO", "RLO", "PDF"} {
		checkLevels(t, "8: each class", []leveling{
			{class, 0, "0 0"}, {class, 1, "1 1"}, {class, 2, "0 0"}, {class + " " + class, 1, "1 1 1"}, {"L " + class, 1, "2 2 1"}, {"R EN " + class, 0, "1 2 2 0"}, {"R " + class + " " + class, 0, "1 1 1 0"},
		})
	}
	checkLevels(t, "8: not there for the others", []leveling{
		{"BN L", 1, "1 2 1"}, {"BN BN R BN", 0, "0 0 1 1 0"}, {"R EN BN ES BN EN", 0, "1 2 2 2 2 2 0"}, {"R EN RLE PDF CS LRE PDF EN", 0, "1 2 2 2 2 2 2 2 0"},
		{"R WS BN R", 0, "1 1 1 1 0"}, {"R BN WS BN L", 0, "1 1 0 0 0 0"}, {"BN WS BN R", 2, "1 1 1 1 1"}, {"R LRI BN PDI R", 0, "1 1 1 1 1 0"}, {"L BN", 0, "0 0 0"},
	})
}

func TestLevelsWithParagraphsEndsAnywhere(t *testing.T) {
	for _, c := range []leveling{
		{"R B R", 0, "1 1 1 0"}, {"R B L", 0, "1 0 0 0"}, {"RLE R B L", 0, "0 1 1 2 0"}, {"RLI R B R PDI L", 0, "0 1 1 1 0 0 0"},
		{"L ( R B R ) R", 0, "0 0 1 1 1 0 1 0"}, {"R B EN", 0, "1 1 2 0"}, {"AL B EN CS EN", 0, "1 1 2 2 2 0"}, {"LRE R B", 0, "0 3 0 0"}, {"B B L B", 1, "1 1 2 1 1"},
		{"LRI*5 B PDI L", 0, "0 2 4 6 8 0 8 8 0"}, {"RLO B B L", 0, "0 0 0 1 0"}, {"LRE B NSM", 1, "1 1 2 1"}, {"B R", 2, "1 1 1"},
	} {
		for _, end := range []string{"\n", "\r", "\x1C", "\x1D", "\x1E", "\u0085", "\u2029"} {
			c.check(t, "P8, with "+strconv.QuoteToASCII(end), strings.ReplaceAll(spell(c.words), "\n", end))
		}
	}
}
