package caret_test

import (
	"slices"
	"strings"
	"testing"

	"caret/api"
	"caret/caret"
)

func TestClustersByRule(t *testing.T) {
	for _, c := range []struct {
		rule, text string
		want       []int
	}{
		{"no bytes", "", []int{0}},
		{"one rune", "a", []int{0, 1}},
		{"bad bytes", "\xFF\x80a", []int{0, 1, 2, 3}},
		{"a bad byte and Extend", "\xFF\u0301", []int{0, 3}},
		{"bytes cut off", "\xE2\x80", []int{0, 1, 2}},
		{"U+FFFD itself", "\uFFFD\uFFFD", []int{0, 3, 6}},

		{"1", "a\r\nb", []int{0, 1, 3, 4}},
		{"1: not the other way round", "\n\r", []int{0, 1, 2}},
		{"1: not twice", "\r\r\n\n", []int{0, 1, 3, 4}},

		{"2: behind CR", "\r\u0301", []int{0, 1, 3}},
		{"2: behind LF", "\n\u200D", []int{0, 1, 4}},
		{"2: behind Control", "\t\u0903", []int{0, 1, 4}},
		{"2: ahead of CR", "\u0600\r", []int{0, 2, 3}},
		{"2: ahead of LF", "\u0600\n", []int{0, 2, 3}},
		{"2: ahead of Control", "\u0600\u200B", []int{0, 2, 5}},
		{"2: Control and Control", "\u2028\u2028", []int{0, 3, 6}},
		{"2: a Pict behind a Joiner behind Control", "\U0001F468\t\u200D\U0001F469", []int{0, 4, 5, 8, 12}},

		{"3: Lead, Lead", "\u1100\u115F", []int{0, 6}},
		{"3: Lead, Vowel", "\u1100\u1160", []int{0, 6}},
		{"3: Lead, LeadVowel", "\u1100\uAC00", []int{0, 6}},
		{"3: Lead, LeadVowelTrail", "\u1100\uD7A3", []int{0, 6}},
		{"3: Lead, Trail", "\u1100\u11A8", []int{0, 3, 6}},
		{"3: LeadVowel, Vowel", "\uAC00\u11A7", []int{0, 6}},
		{"3: LeadVowel, Trail", "\uAC00\u11FF", []int{0, 6}},
		{"3: LeadVowel, Lead", "\uAC00\u1100", []int{0, 3, 6}},
		{"3: LeadVowel, LeadVowel", "\uAC00\uAC1C", []int{0, 3, 6}},
		{"3: Vowel, Vowel", "\u1160\u1160", []int{0, 6}},
		{"3: Vowel, Trail", "\u1160\u11A8", []int{0, 6}},
		{"3: Vowel, Lead", "\u1160\u1100", []int{0, 3, 6}},
		{"3: LeadVowelTrail, Trail", "\uAC01\u11A8", []int{0, 6}},
		{"3: LeadVowelTrail, Vowel", "\uAC01\u1160", []int{0, 3, 6}},
		{"3: Trail, Trail", "\u11A8\u11A8", []int{0, 6}},
		{"3: Trail, Vowel", "\u11A8\u1160", []int{0, 3, 6}},
		{"3: behind Extend", "\u1100\u0301\u1160", []int{0, 5, 8}},

		{"4: Extend", "e\u0301\u0301x", []int{0, 5, 6}},
		{"4: Joiner", "a\u200Db", []int{0, 4, 5}},
		{"4: Spacing", "k\u093E\u0940k", []int{0, 7, 8}},
		{"4: at the beginning", "\u0301\u0903a", []int{0, 5, 6}},

		{"5", "\u0600a", []int{0, 3}},
		{"5: Prepend, Prepend", "\u0600\u0605a\u0600", []int{0, 5, 7}},
		{"5: a flag behind", "\u0600\U0001F1E6\U0001F1E7\U0001F1E8", []int{0, 10, 14}},
		{"5: not behind Extend", "\u0600\u0301a", []int{0, 4, 5}},

		{"6", "\U0001F468\u200D\U0001F469\u200D\u2764", []int{0, 17}},
		{"6: with Extends", "\u2764\uFE0F\U0001F3FB\u200C\u200D\u00A9", []int{0, 18}},
		{"6: no Joiner", "\U0001F468\U0001F469", []int{0, 4, 8}},
		{"6: no Pict ahead", "a\u200D\U0001F469", []int{0, 4, 8}},
		{"6: no Pict behind", "\U0001F468\u200Da", []int{0, 7, 8}},
		{"6: a Joiner at the beginning", "\u200D\U0001F469", []int{0, 3, 7}},
		{"6: two Joiners", "\U0001F468\u200D\u200D\U0001F469", []int{0, 10, 14}},
		{"6: Extend behind the Joiner", "\U0001F468\u200D\u0301\U0001F469", []int{0, 9, 13}},
		{"6: Joiner, Extend, Joiner", "\U0001F468\u200D\u0301\u200D\U0001F469", []int{0, 12, 16}},
		{"6: Spacing between", "\U0001F468\u0903\u200D\U0001F469", []int{0, 10, 14}},

		{"7: two", "\U0001F1E6\U0001F1FF", []int{0, 8}},
		{"7: three", "\U0001F1E6\U0001F1E7\U0001F1E8", []int{0, 8, 12}},
		{"7: five", "\U0001F1E6\U0001F1E6\U0001F1E6\U0001F1E6\U0001F1E6", []int{0, 8, 16, 20}},
		{"7: counted anew", "\U0001F1E6a\U0001F1E7\U0001F1E8", []int{0, 4, 5, 13}},
		{"7: counted anew behind Extend", "\U0001F1E6\u0301\U0001F1E7\U0001F1E8", []int{0, 6, 14}},
		{"7: a Joiner between", "\U0001F1E6\u200D\U0001F1E7", []int{0, 7, 11}},

		{"8", "a\u05D0 1", []int{0, 1, 3, 4, 5}},
		{"8: Lead behind a letter", "a\u1100", []int{0, 1, 4}},
	} {
		if got := caret.Clusters(c.text); !slices.Equal(got, c.want) {
			t.Errorf("P5: rule %s: Clusters(%+q) = %v, want %v", c.rule, c.text, got, c.want)
		}
	}
}

func among[T comparable](one T, some ...T) bool { return slices.Contains(some, one) }

// joined: by the document's rules, each looking back for itself; i is above 0.
func joined(k []api.Kind, i int) bool {
	a, b := k[i-1], k[i]
	switch {
	case a == api.CR && b == api.LF:
		return true
	case among(a, api.CR, api.LF, api.Control) || among(b, api.CR, api.LF, api.Control):
		return false
	case a == api.Lead && among(b, api.Lead, api.Vowel, api.LeadVowel, api.LeadVowelTrail):
		return true
	case among(a, api.LeadVowel, api.Vowel) && among(b, api.Vowel, api.Trail):
		return true
	case among(a, api.LeadVowelTrail, api.Trail) && b == api.Trail:
		return true
	case among(b, api.Extend, api.Joiner, api.Spacing):
		return true
	case a == api.Prepend:
		return true
	case a == api.Joiner && b == api.Pict:
		j := i - 2
		for j >= 0 && k[j] == api.Extend {
			j--
		}
		return j >= 0 && k[j] == api.Pict
	case a == api.Flag && b == api.Flag:
		j := i
		for j > 0 && k[j-1] == api.Flag {
			j--
		}
		return (i-j)%2 == 1
	}
	return false
}

func boundsByRules(text string, kindOf map[rune]api.Kind) []int {
	var starts []int
	var kinds []api.Kind
	for from, r := range text {
		starts = append(starts, from)
		kinds = append(kinds, kindOf[r])
	}
	bounds := []int{0}
	for i := 1; i < len(starts); i++ {
		if !joined(kinds, i) {
			bounds = append(bounds, starts[i])
		}
	}
	if text != "" {
		bounds = append(bounds, len(text))
	}
	return bounds
}

func TestClustersOfManyTexts(t *testing.T) {
	kindOf := wantedKinds(t)
	check := func(text string) {
		want := boundsByRules(text, kindOf)
		if got := caret.Clusters(text); !slices.Equal(got, want) {
			t.Fatalf("P5: Clusters(%+q) = %v, want %v", text, got, want)
		}
	}
	for text := range allTexts(pieces[:16], 4) {
		check(text)
	}
	for text := range allTexts([]string{"a", "\U0001F468", "\u0301", "\u200D", "\U0001F1E6"}, 7) {
		check(text)
	}
	for text := range anyTexts(3000) {
		check(text)
	}
}

// What the rules look for may stand far ahead: if each of so many flags looked back to the first one, the tests' time would run out.
func TestClustersOfLongTexts(t *testing.T) {
	const many = 1 << 22
	for _, c := range []struct {
		name, text string
		count      int
	}{
		{"letters", strings.Repeat("a", many), many + 1},
		{"bad bytes", strings.Repeat("\xFF", many), many + 1},
		{"flags", strings.Repeat("\U0001F1E6", many), many/2 + 1},
		{"an odd number of flags", strings.Repeat("\U0001F1E6", many+1), many/2 + 2},
		{"Extends ahead of a joined Pict", "\U0001F468" + strings.Repeat("\u0301", many) + "\u200D\U0001F469", 2},
		{"Picts and Joiners", strings.Repeat("\U0001F468\u200D", many), 2},
		{"Extends, and no Pict ahead", "a" + strings.Repeat("\u0301", many) + "\u200D\U0001F469", 3},
		{"Prepends", strings.Repeat("\u0600", many), 2},
		{"CR and LF", strings.Repeat("\r\n", many), many + 1},
	} {
		got := caret.Clusters(c.text)
		if len(got) != c.count || got[0] != 0 || got[len(got)-1] != len(c.text) {
			t.Errorf("P5: %s: %d boundaries from %d to %d, want %d from 0 to %d", c.name, len(got), got[0], got[len(got)-1], c.count, len(c.text))
		}
	}
}
