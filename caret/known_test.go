package caret_test

import (
	"math"
	"strconv"
	"strings"
	"testing"

	"caret/api"
	"caret/caret"
)

// The rows as the document writes them, so that they can be held against it by eye.
var classRows = []struct {
	class api.Class
	runes string
}{
	{api.BN, "0000-0008, 000E-001B, 007F-0084, 0086-009F, 00AD, 200B-200D, FEFF"},
	{api.S, "0009, 000B, 001F"},
	{api.B, "000A, 000D, 001C-001E, 0085, 2029"},
	{api.WS, "000C, 0020, 2028"},
	{api.ON, "0021-0022, 0026-002A, 003B-0040, 005B-0060, 007B-007E, 00A1, 00A6-00A9, 00AB-00AC, 00AE-00AF, 00B4, 2190-2193, 2600-27BF, 3008-300B, FFFD, 1F300-1F9FF"},
	{api.ET, "0023-0025, 00A2-00A5, 00B0-00B1, 066A, 20A0-20BF"},
	{api.ES, "002B, 002D"},
	{api.CS, "002C, 002E-002F, 003A, 00A0, 060C, 202F, 2044"},
	{api.EN, "0030-0039, 00B2-00B3, 06F0-06F9"},
	{api.NSM, "0300-036F, 0591-05BD, 064B-065F, 0670, FE00-FE0F"},
	{api.R, "05BE, 05D0-05EA, 200F"},
	{api.AN, "0600-0605, 0660-0669, 066B-066C"},
	{api.AL, "0608, 061C, 0620-064A, 066D-066F, 0671-06D3"},
	{api.LRE, "202A"},
	{api.RLE, "202B"},
	{api.PDF, "202C"},
	{api.LRO, "202D"},
	{api.RLO, "202E"},
	{api.LRI, "2066"},
	{api.RLI, "2067"},
	{api.FSI, "2068"},
	{api.PDI, "2069"},
}

var kindRows = []struct {
	kind  api.Kind
	runes string
}{
	{api.Control, "0000-0009, 000B-000C, 000E-001F, 007F-009F, 00AD, 061C, 200B, 200E-200F, 2028-202E, 2066-2069, FEFF"},
	{api.LF, "000A"},
	{api.CR, "000D"},
	{api.Pict, "00A9, 00AE, 2600-27BF, 1F300-1F3FA, 1F400-1F9FF"},
	{api.Extend, "0300-036F, 0591-05BD, 064B-065F, 0670, 200C, FE00-FE0F, 1F3FB-1F3FF"},
	{api.Prepend, "0600-0605"},
	{api.Spacing, "0903, 093E-0940"},
	{api.Lead, "1100-115F"},
	{api.Vowel, "1160-11A7"},
	{api.Trail, "11A8-11FF"},
	{api.Joiner, "200D"},
	{api.Flag, "1F1E6-1F1FF"},
}

func hex(t *testing.T, s string) rune {
	n, err := strconv.ParseInt(s, 16, 32)
	if err != nil {
		t.Fatal(err)
	}
	return rune(n)
}

// eachRune calls do for each rune of a row of the document.
func eachRune(t *testing.T, row string, do func(r rune)) {
	for _, part := range strings.Split(row, ", ") {
		first, last, found := strings.Cut(part, "-")
		if !found {
			last = first
		}
		for r := hex(t, first); r <= hex(t, last); r++ {
			do(r)
		}
	}
}

func wantedClasses(t *testing.T) map[rune]api.Class {
	want := map[rune]api.Class{}
	for _, row := range classRows {
		eachRune(t, row.runes, func(r rune) {
			if old, twice := want[r]; twice {
				t.Fatalf("%X has class %d and %d", r, old, row.class)
			}
			want[r] = row.class
		})
	}
	return want
}

func wantedKinds(t *testing.T) map[rune]api.Kind {
	want := map[rune]api.Kind{}
	for _, row := range kindRows {
		eachRune(t, row.runes, func(r rune) {
			if old, twice := want[r]; twice {
				t.Fatalf("%X has kind %d and %d", r, old, row.kind)
			}
			want[r] = row.kind
		})
	}
	for r := rune(0xAC00); r <= 0xD7A3; r++ {
		want[r] = api.LeadVowelTrail
	}
	for r := rune(0xAC00); r <= 0xD7A3; r += 28 {
		want[r] = api.LeadVowel
	}
	return want
}

// Every rune, and the numbers beside the first and the last one: so each row's ends and what stands beside them are among them.
func TestEachNumberHasTheClassAndKindOfItsRow(t *testing.T) {
	classes, kinds := wantedClasses(t), wantedKinds(t)
	for r := rune(-0x1000); r <= 0x111000; r++ {
		// A number without a row is missing in the maps, which then answer 0: L and Other.
		if got := caret.ClassOf(r); got != classes[r] {
			t.Errorf("P4: ClassOf(%X) = %d, want %d", r, got, classes[r])
		}
		if got := caret.KindOf(r); got != kinds[r] {
			t.Errorf("P4: KindOf(%X) = %d, want %d", r, got, kinds[r])
		}
	}
}

func TestNumbersThatAreNoRunes(t *testing.T) {
	for _, r := range []rune{-1, -0x5D0, math.MinInt32, math.MinInt32 + 1, 0xD800, 0xDFFF, 0x110000, 0x110005, 0x200000, math.MaxInt32 - 1, math.MaxInt32} {
		if a, b := caret.ClassOf(r), caret.KindOf(r); a != api.L || b != api.Other {
			t.Errorf("P4: of %X: class %d, kind %d, want L, Other", r, a, b)
		}
	}
}

// A number whose low bits are those of a rune in a row is not that rune.
func TestNumbersFarAboveAreNotCutOff(t *testing.T) {
	for _, row := range classRows {
		eachRune(t, row.runes, func(r rune) {
			for _, high := range []rune{0x200000, 0x1000000, 0x40000000, math.MinInt32} {
				if a, b := caret.ClassOf(r|high), caret.KindOf(r|high); a != api.L || b != api.Other {
					t.Errorf("P4: of %X: class %d, kind %d, want L, Other", r|high, a, b)
				}
			}
		})
	}
}
