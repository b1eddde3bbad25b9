package caret_test

import (
	"math"
	"slices"
	"strings"
	"testing"
	"unicode/utf8"

	"caret/api"
	"caret/caret"
)

var metric = api.Metric{Narrow: 10, Wide: 20}

func open(t *testing.T, text string, base int, m api.Metric, room int) *caret.Document {
	t.Helper()
	d, err := caret.Open(text, base, m, room)
	if err != api.OK || d == nil {
		t.Fatalf("P27: Open(%+q, %d, %v, %d) = %v, %d", text, base, m, room, d, err)
	}
	return d
}

// openWide: a document from the left, on one line.
func openWide(t *testing.T, text string) *caret.Document {
	t.Helper()
	return open(t, text, api.FromLeft, metric, 1<<40)
}

var unclean = []struct{ what, text, want string }{
	{"no bytes", "", ""}, {"clean", "ab, \u05D0e\u0301\U0001F468", "ab, \u05D0e\u0301\U0001F468"},
	{"a byte that is no part of a rune", "\xFF", "\uFFFD"}, {"one between", "a\xFFb", "a\uFFFDb"}, {"a byte of a rune's middle", "a\x85", "a\uFFFD"}, {"two of three bytes", "\xE2\x80", "\uFFFD\uFFFD"}, {"two of three bytes, and more", "\xE2\x80a", "\uFFFD\uFFFDa"}, {"three of four", "\xF0\x9F\x91\u05D0", "\uFFFD\uFFFD\uFFFD\u05D0"},
	{"too long a form", "\xC0\x80", "\uFFFD\uFFFD"}, {"half a pair", "\xED\xA0\x80", "\uFFFD\uFFFD\uFFFD"}, {"beyond the last rune", "\xF4\x90\x80\x80", "\uFFFD\uFFFD\uFFFD\uFFFD"}, {"U+FFFD itself", "\uFFFD", "\uFFFD"},
	{"LF", "a\nb", "a b"}, {"CR", "a\rb", "a b"}, {"CR and LF", "a\r\nb", "a  b"}, {"at the end", "a\n", "a "}, {"at the beginning", "\na", " a"}, {"alone", "\n", " "}, {"U+001C to U+001E", "\x1C\x1D\x1E", "   "}, {"U+0085", "a\u0085b", "a b"}, {"U+2029", "a\u2029b", "a b"},
	{"beside these", "\t\v\f\x1B\x1F\u0084\u0086\u2028\u202A", "\t\v\f\x1B\x1F\u0084\u0086\u2028\u202A"}, {"a mark behind an end", "\n\u0301", " \u0301"}, {"both", "\xFF\n\xFE\r", "\uFFFD \uFFFD "},
}

func TestOpenCleansTheText(t *testing.T) {
	for _, c := range unclean {
		if got := openWide(t, c.text).Do(op(api.Nothing)).Text; got != c.want {
			t.Errorf("P27: %s: Open(%+q) has %+q, want %+q", c.what, c.text, got, c.want)
		}
	}
	known := bothTables(t)
	for text := range allTexts(append(slices.Clone(pieces), "\u0085", "\u2029", "\x85"), 2) {
		if got, want := openWide(t, text).Do(op(api.Nothing)).Text, cleanByRules(text, known); got != want {
			t.Errorf("P27: Open(%+q) has %+q, want %+q", text, got, want)
		}
	}
}

func checkOpen(t *testing.T, what, text string, base int, m api.Metric, room int, want api.Errno) {
	t.Helper()
	d, err := caret.Open(text, base, m, room)
	if err != want {
		t.Errorf("P27: %s: Open(%d bytes, %+.20q.., %d, %v, %d): %d, want %d", what, len(text), text, base, m, room, err, want)
	}
	if (d == nil) != (err != api.OK) {
		t.Errorf("P1: %s: Open answers %v beside %d", what, d, err)
	}
}

func TestOpenRefusesLongTexts(t *testing.T) {
	for _, c := range []struct {
		what, text string
		want       api.Errno
	}{
		{"no bytes", "", api.OK}, {"399 bytes", strings.Repeat("a", 399), api.OK}, {"400 bytes", strings.Repeat("a", 400), api.OK}, {"401 bytes", strings.Repeat("a", 401), api.ErrLong}, {"many bytes", strings.Repeat("a", 1<<20), api.ErrLong},
		{"400 bytes of 200 runes", strings.Repeat("\u05D0", 200), api.OK}, {"402 bytes of 201 runes", strings.Repeat("\u05D0", 201), api.ErrLong},
		{"longer when clean, but not too long", strings.Repeat("\xFF", 133), api.OK}, {"too long when clean", strings.Repeat("\xFF", 134), api.ErrLong}, {"just 400 when clean", strings.Repeat("a", 397) + "\xFF", api.OK}, {"401 when clean", strings.Repeat("a", 398) + "\xFF", api.ErrLong}, {"400 bytes, 1200 when clean", strings.Repeat("\x80", 400), api.ErrLong}, {"two bytes cut off", strings.Repeat("a", 394) + "\xE2\x80", api.OK}, {"two bytes cut off", strings.Repeat("a", 395) + "\xE2\x80", api.ErrLong},
		{"shorter when clean", strings.Repeat("\u2029", 400), api.OK}, {"shorter, but too long", strings.Repeat("\u2029", 401), api.ErrLong}, {"401 bytes, 400 when clean", strings.Repeat("a", 399) + "\u0085", api.OK}, {"402 bytes, 401 when clean", strings.Repeat("a", 400) + "\u0085", api.ErrLong}, {"402 bytes, 400 when clean", "\u2029" + strings.Repeat("a", 399), api.OK},
		{"400 ends of a paragraph", strings.Repeat("\n", 400), api.OK}, {"401 ends of a paragraph", strings.Repeat("\n", 401), api.ErrLong}, {"longer and shorter", strings.Repeat("\u2029\xFF", 100), api.OK}, {"longer and shorter, too long", strings.Repeat("\u2029\xFF", 101), api.ErrLong},
	} {
		checkOpen(t, c.what, c.text, 0, metric, 50, c.want)
	}
}

func TestOpenRefusesBasesAndMetrics(t *testing.T) {
	for _, base := range []int{0, 1, 2} {
		checkOpen(t, "a base", "a", base, metric, 50, api.OK)
	}
	for _, base := range []int{-1, 3, 4, math.MinInt, math.MaxInt, 1 << 32, 1<<32 + 1, 256, -2} {
		checkOpen(t, "no base", "a", base, metric, 50, api.ErrBase)
		checkOpen(t, "no base, no bytes", "", base, metric, 50, api.ErrBase)
	}
	// A width is refused whether or not a rune of the text is as wide.
	for _, text := range []string{"", "a", "\u4E00", "a\u4E00", "\u0301"} {
		for _, width := range []int{0, 1, 10, 1<<30 - 1, 1 << 30} {
			checkOpen(t, "narrow", text, 0, api.Metric{Narrow: width, Wide: 20}, 50, api.OK)
			checkOpen(t, "wide", text, 0, api.Metric{Narrow: 10, Wide: width}, 50, api.OK)
			checkOpen(t, "both", text, 0, api.Metric{Narrow: width, Wide: width}, 50, api.OK)
		}
		for _, width := range []int{-1, -10, 1<<30 + 1, 1 << 31, 1 << 32, 1<<32 + 10, -1 << 32, math.MinInt, math.MaxInt} {
			checkOpen(t, "narrow", text, 0, api.Metric{Narrow: width, Wide: 20}, 50, api.ErrWidths)
			checkOpen(t, "wide", text, 0, api.Metric{Narrow: 10, Wide: width}, 50, api.ErrWidths)
			checkOpen(t, "both", text, 0, api.Metric{Narrow: width, Wide: width}, 50, api.ErrWidths)
		}
	}
}

func TestOpenTellsTheFirstFault(t *testing.T) {
	long, bad := strings.Repeat("a", 401), api.Metric{Narrow: -1, Wide: 1 << 31}
	checkOpen(t, "long and no base", long, 3, metric, 50, api.ErrLong)
	checkOpen(t, "long and widths", long, 0, bad, 50, api.ErrLong)
	checkOpen(t, "no base and widths", "a", -1, bad, 50, api.ErrBase)
	checkOpen(t, "all three", long, 3, bad, 50, api.ErrLong)
	checkOpen(t, "all three, long when clean", long[:399]+"\xFF", 3, bad, -1, api.ErrLong)
	checkOpen(t, "two, short when clean", long[:399]+"\u2029", 3, bad, 50, api.ErrBase)
	checkOpen(t, "one, short when clean", long[:399]+"\u2029", 2, bad, 50, api.ErrWidths)
	for _, room := range []int{math.MinInt, -1, 0, math.MaxInt} {
		checkOpen(t, "no room is wrong", "ab \u05D0", 2, metric, room, api.OK)
	}
}

// A rune is as wide as all that is selected, if it is all of the text.
func TestOpenWidths(t *testing.T) {
	k := desk{m: api.Metric{Narrow: 3, Wide: 100}, known: bothTables(t)}
	check := func(r rune, want int) {
		d := open(t, string(r), 0, k.m, 50)
		page := d.Do(extended(op(api.End)))
		if len(page.Selected) != 1 || page.Selected[0].Right != int64(want) {
			t.Errorf("P27: U+%04X: %+v, want %d", r, page, want)
		}
	}
	for r := range rune(0x3100) {
		if k.known.classes[r] != api.B {
			check(r, k.widthByRules(r))
		}
	}
	for r := range k.known.classes {
		if r >= 0x3100 && utf8.ValidRune(r) {
			check(r, k.widthByRules(r))
		}
	}
	for _, c := range []struct {
		runes string
		want  int
	}{
		{"a\u05D0\u0627" + "1+$,\t !\u0660\u10FE\u10FF", 3},
		{"\u1100\u1101\uAC00\u4E00\uFFFD\u2028\u202F\u200F\u200E\u2600\u3008\U0001F468\U0001F3FB\U0010FFFF", 100},
		{"\u0301\u0591\u064B\u0670\uFE00\u00AD\u200B\u200C\u200D\uFEFF\x00\x7F\u202A\u202B\u202C\u202D\u202E\u2066\u2067\u2068\u2069", 0},
	} {
		for _, r := range c.runes {
			check(r, c.want)
		}
	}
}

func TestOpenLaysTheTextOut(t *testing.T) {
	known := bothTables(t)
	texts := []string{"", "a", "ab cd ef", "\u05D0\u05D1 12 ab", "\u4E00\u4E01 \u4E02", "e\u0301e\u0301 \u202Bab\u202C", "a\nb\xFFc", "\n", "   ", "\xFF"}
	rooms := []int{math.MinInt, -1, 0, 9, 10, 19, 20, 25, 30, 39, 40, 50, 80, 1 << 31, math.MaxInt}
	for _, text := range texts {
		for base := range 3 {
			for _, room := range rooms {
				k := desk{base, metric, room, known}
				s := k.setup(cleanByRules(text, known))
				page := k.open(t, text).Do(op(api.Nothing))
				if page.Text != s.Text || !slices.Equal(page.Breaks, s.Breaks) || page.Undos != 0 || page.Redos != 0 {
					t.Errorf("P27: %+q, base %d, room %d: %+v, want text %+q, breaks %v", text, base, room, page, s.Text, s.Breaks)
				}
				checkState(t, "as Edit begins it", page.State, begin(t, lay(t, s)).Do(op(api.Nothing)))
			}
		}
	}
}

// The breaks, by hand: narrow runes are 10 wide, wide ones 20, marks have no width.
func TestOpenBreaksLines(t *testing.T) {
	for _, c := range []struct {
		text string
		room int
		want []int
	}{
		{"ab cd ef", 50, []int{6}}, {"ab cd ef", 20, []int{3, 6}}, {"ab cd ef", 10, []int{1, 3, 4, 6, 7}}, {"ab cd ef", 80, nil}, {"ab cd ef", 79, []int{6}},
		{"abc", 0, []int{1, 2}}, {"abc", -1, []int{1, 2}}, {"abc", math.MinInt, []int{1, 2}}, {"abc", math.MaxInt, nil}, {"", 0, nil}, {"", -1, nil}, {"", math.MinInt, nil},
		{"\u4E00\u4E01\u4E02", 40, []int{6}}, {"a\u4E00b", 30, []int{4}}, {"a\u4E00b", 29, []int{1, 4}}, {"e\u0301e\u0301", 20, nil}, {"e\u0301e\u0301", 19, []int{3}}, {"ab\u2067\u05D0\u2069", 30, nil}, {"ab\u2067\u05D0\u2069", 20, []int{5}},
		{"\u200B\u200B", 0, nil}, {"\u200B\u200B", -1, []int{3}},
		{"ab\ncd", 20, []int{3}}, {"ab\r\ncd", 20, []int{4}}, {"a\xFFb", 30, []int{4}}, {"a\u2029b", 10, []int{2}},
	} {
		page := open(t, c.text, 0, metric, c.room).Do(op(api.Nothing))
		if !slices.Equal(page.Breaks, c.want) {
			t.Errorf("P27: %+q, room %d: breaks %v, want %v", c.text, c.room, page.Breaks, c.want)
		}
		if len(c.want) == 0 && page.Breaks != nil {
			t.Errorf("P31: %+q, room %d: breaks %v, want nil", c.text, c.room, page.Breaks)
		}
	}
}

// Left to Set, and all that neither knows: a session of a layout with the same text, widths and breaks does the same.
func TestADocumentMovesAsASessionDoes(t *testing.T) {
	known := bothTables(t)
	chance := dice(71)
	for _, parts := range [][]string{runners, pieces, spelled("L R EN WS")} {
		for range 30 {
			text := cleanByRules(chance.text(parts, 30), known)
			k := chance.anyDesk(known)
			s := k.setup(text)
			d, e := k.open(t, text), begin(t, lay(t, s))
			for _, o := range chance.anyOps(s, 40) {
				if o.Do > api.Nothing && o.Do <= api.Redo {
					continue
				}
				checkState(t, "as a session", d.Do(o).State, e.Do(o))
			}
		}
	}
}

func TestEachOpOfASessionInADocument(t *testing.T) {
	known := bothTables(t)
	for base := range 2 {
		k := desk{base, metric, 30, known}
		const text = "ab \u05D0\u05D1 c\u05D2d"
		l := lay(t, k.setup(text))
		ops := []api.Op{clickAt(1, 14), clickAt(-1, 99), setTo(at(4)), setTo(back(5)), setTo(at(99))}
		for do := api.Left; do <= api.Down; do++ {
			ops = append(ops, op(do))
		}
		for _, o := range ops {
			for _, focus := range []api.Caret{at(0), back(3), at(3), at(5), back(8), at(9), back(len(text))} {
				for _, o := range []api.Op{o, extended(o)} {
					d, e := k.open(t, text), begin(t, l)
					for _, first := range []api.Op{setTo(at(1)), extended(setTo(focus)), o, op(api.Up), op(api.Down)} {
						checkState(t, "as a session", d.Do(first).State, e.Do(first))
					}
				}
			}
		}
	}
}
