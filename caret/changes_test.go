package caret_test

import (
	"slices"
	"strings"
	"testing"

	"caret/api"
	"caret/caret"
)

// paging: an op, and what the document is then.
type paging struct {
	op            api.Op
	text          string
	anchor, focus api.Caret
	moved         bool
	undos, redos  int
}

// checkPaging: beside these, the breaks, and what a layout of the text tells of the carets.
func (k desk) checkPaging(t *testing.T, what string, d *caret.Document, steps []paging) {
	t.Helper()
	for i, c := range steps {
		s := k.setup(c.text)
		l := lay(t, s)
		want := api.Page{Text: c.text, Breaks: s.Breaks, Undos: c.undos, Redos: c.redos, State: api.State{
			Anchor: c.anchor, Focus: c.focus, Gap: l.Gap(c.focus), X: l.X(c.focus), Moved: c.moved,
			Before: l.Gap(back(c.focus.Offset)), After: l.Gap(at(c.focus.Offset)), Selected: l.Select(c.anchor.Offset, c.focus.Offset),
		}}
		if got := d.Do(c.op); !equalPages(got, want) {
			t.Errorf("P28 to P31: %s: step %d: Do(%+v) = %+v, want %+v", what, i, c.op, got, want)
		}
	}
}

func deskWith(t *testing.T, room int) desk { return desk{0, metric, room, bothTables(t)} }

// selectIn opens a document in which this is selected.
func (k desk) selectIn(t *testing.T, text string, anchor, focus api.Caret) *caret.Document {
	t.Helper()
	d := k.open(t, text)
	d.Do(setTo(anchor))
	if page := d.Do(extended(setTo(focus))); page.Anchor != anchor || page.Focus != focus {
		t.Fatalf("P28: %+q: set to %v, then to %v: %+v", text, anchor, focus, page)
	}
	return d
}

// word: where WordBack and WordNext go from a caret.
type word struct{ from, back, next api.Caret }

func (k desk) checkWord(t *testing.T, text string, c word) {
	t.Helper()
	for _, anchor := range []api.Caret{c.from, at(0), back(len(text))} {
		anchor = lay(t, k.setup(text)).Place(anchor)
		k.checkPaging(t, "WordBack", k.selectIn(t, text, anchor, c.from), []paging{{op(api.WordBack), text, c.back, c.back, c.back != c.from, 0, 0}})
		k.checkPaging(t, "WordNext", k.selectIn(t, text, anchor, c.from), []paging{{op(api.WordNext), text, c.next, c.next, c.next != c.from, 0, 0}})
		k.checkPaging(t, "WordBack with Extend", k.selectIn(t, text, anchor, c.from), []paging{{extended(op(api.WordBack)), text, anchor, c.back, c.back != c.from, 0, 0}})
		k.checkPaging(t, "WordNext with Extend", k.selectIn(t, text, anchor, c.from), []paging{{extended(op(api.WordNext)), text, anchor, c.next, c.next != c.from, 0, 0}})
	}
}

func TestWordBackAndWordNext(t *testing.T) {
	for _, room := range []int{30, 1 << 20} {
		k := deskWith(t, room)
		for _, c := range []word{
			{at(0), at(0), back(2)},                            // at the beginning
			{at(1), at(0), back(2)}, {back(1), at(0), back(2)}, // within a word
			{at(2), at(0), back(4)}, {back(2), at(0), back(4)}, // at its end
			{at(3), at(2), back(4)}, {back(3), at(2), back(4)}, // between words
			{at(4), at(2), back(8)}, {back(4), at(2), back(8)}, {at(6), at(4), back(8)}, {back(6), at(4), back(8)}, {at(8), at(4), back(9)}, {back(8), at(4), back(9)},
			{at(9), at(8), back(10)}, {back(9), at(8), back(10)},
			{back(10), at(9), back(10)}, // at the end
		} {
			k.checkWord(t, "ab, \u05D0\u05D1 c", c)
		}
		for _, c := range []word{{at(0), at(0), back(4)}, {at(1), at(0), back(4)}, {back(4), at(0), back(7)}, {at(4), at(0), back(7)}, {at(7), at(4), back(8)}, {back(8), at(7), back(8)}} {
			k.checkWord(t, "xe\u0301 \u0301y", c)
		}
		for _, c := range []word{{at(0), at(0), back(3)}, {at(1), at(0), back(3)}, {back(3), at(0), back(3)}} {
			k.checkWord(t, "abc", c)
			k.checkWord(t, " ,!", c)
		}
		k.checkWord(t, "", word{at(0), at(0), at(0)})
	}
}

// Of a word that was changed the new text's boundaries count.
func TestWordsOfAChangedText(t *testing.T) {
	k := deskWith(t, 50)
	k.checkPaging(t, "changed", k.open(t, "abcd ef"), []paging{
		{op(api.WordNext), "abcd ef", back(4), back(4), true, 0, 0}, {op(api.Left), "abcd ef", back(3), back(3), true, 0, 0}, {inserting("-"), "abc-d ef", back(4), back(4), true, 1, 0},
		{op(api.WordBack), "abc-d ef", at(3), at(3), true, 1, 0}, {op(api.WordBack), "abc-d ef", at(0), at(0), true, 1, 0}, {op(api.WordBack), "abc-d ef", at(0), at(0), false, 1, 0},
		{extended(op(api.WordNext)), "abc-d ef", at(0), back(3), true, 1, 0}, {extended(op(api.WordNext)), "abc-d ef", at(0), back(4), true, 1, 0}, {op(api.Erase), "d ef", at(0), at(0), true, 2, 0},
		{op(api.WordNext), "d ef", back(1), back(1), true, 2, 0}, {op(api.WordNext), "d ef", back(2), back(2), true, 2, 0}, {op(api.WordNext), "d ef", back(4), back(4), true, 2, 0}, {op(api.WordNext), "d ef", back(4), back(4), false, 2, 0},
	})
}

// changing: a change of a text between two carets, and what comes of it.
type changing struct {
	what, text    string
	anchor, focus api.Caret
	op            api.Op
	want          string
	then          api.Caret
}

// checkChanges: in both orders of Anchor and Focus, with and without Extend.
func (k desk) checkChanges(t *testing.T, cases []changing) {
	t.Helper()
	for _, c := range cases {
		for _, o := range []api.Op{c.op, extended(c.op)} {
			step := []paging{{o, c.want, c.then, c.then, true, 1, 0}}
			k.checkPaging(t, c.what, k.selectIn(t, c.text, c.anchor, c.focus), step)
			if c.anchor.Offset != c.focus.Offset {
				k.checkPaging(t, c.what+", the other way round", k.selectIn(t, c.text, c.focus, c.anchor), step)
			}
		}
	}
}

// checkIdle: ops by which nothing is done.
func (k desk) checkIdle(t *testing.T, what, text string, anchor, focus api.Caret, ops ...api.Op) {
	t.Helper()
	for _, o := range ops {
		for _, o := range []api.Op{o, extended(o)} {
			d := k.selectIn(t, text, anchor, focus)
			k.checkPaging(t, what, d, []paging{{o, text, anchor, focus, false, 0, 0}, {op(api.Nothing), text, anchor, focus, false, 0, 0}})
		}
	}
}

func TestInsert(t *testing.T) {
	for _, room := range []int{-1, 20, 1 << 20} {
		k := deskWith(t, room)
		k.checkChanges(t, []changing{
			{"between", "ab", at(1), at(1), inserting("x"), "axb", back(2)}, {"between, with Back", "ab", back(1), back(1), inserting("xy"), "axyb", back(3)}, {"at the beginning", "ab", at(0), at(0), inserting("x"), "xab", back(1)}, {"at the end", "ab", back(2), back(2), inserting("x"), "abx", back(3)}, {"in a text of no bytes", "", at(0), at(0), inserting("xy"), "xy", back(2)},
			{"in place of a cluster", "abcd", at(1), back(2), inserting("xy"), "axycd", back(3)}, {"in place of some", "abcd", at(1), back(3), inserting("x"), "axd", back(2)}, {"in place of all", "abcd", at(0), back(4), inserting("x"), "x", back(1)}, {"in place of the beginning", "abcd", at(0), at(2), inserting("xyz"), "xyzcd", back(3)}, {"in place of the end", "abcd", at(3), back(4), inserting("x"), "abcx", back(4)}, {"in place of itself", "abcd", at(1), back(3), inserting("bc"), "abcd", back(3)},
			{"no text", "ab", at(1), at(1), inserting(""), "ab", back(1)}, {"no text, with Back", "ab", back(1), back(1), inserting(""), "ab", back(1)}, {"no text at the beginning", "ab", at(0), at(0), inserting(""), "ab", at(0)}, {"no text at the end", "ab", back(2), back(2), inserting(""), "ab", back(2)}, {"no text in no bytes", "", at(0), at(0), inserting(""), "", at(0)}, {"no text where Back alone differs", "ab", back(1), at(1), inserting(""), "ab", back(1)}, {"no text where Back alone differs", "ab", at(1), back(1), inserting(""), "ab", back(1)},
			{"no text in place of some", "abcd", at(1), back(3), inserting(""), "ad", back(1)}, {"no text in place of all", "abcd", at(0), back(4), inserting(""), "", at(0)}, {"no text in place of the beginning", "abcd", at(0), back(2), inserting(""), "cd", at(0)}, {"no text in place of the end", "abcd", at(2), back(4), inserting(""), "ab", back(2)},
			{"from right to left", "\u05D0\u05D1", at(2), at(2), inserting("\u05D2"), "\u05D0\u05D2\u05D1", back(4)}, {"from right to left, within", "ab\u05D0\u05D1", at(2), back(4), inserting("1"), "ab1\u05D1", back(3)}, {"a wide rune", "ab", at(1), at(1), inserting("\u4E00"), "a\u4E00b", back(4)},
		})
	}
}

func TestInsertCleansTheText(t *testing.T) {
	k := deskWith(t, 1<<20)
	for _, c := range unclean {
		if strings.Contains(c.want, "\u0301") {
			continue // joins what stands ahead: see below
		}
		k.checkChanges(t, []changing{{c.what, "xyz", at(1), back(2), inserting(c.text), "x" + c.want + "z", api.Caret{Offset: 1 + len(c.want), Back: true}}})
	}
	k.checkChanges(t, []changing{
		{"an end of a paragraph and a mark", "xy", at(1), at(1), inserting("\n\u0301"), "x \u0301y", back(4)}, {"CR ahead of LF", "xy", at(1), at(1), inserting("\r\n"), "x  y", back(3)},
		// Halves of a rune do not make one.
		{"two bytes of a rune", "xy", at(1), at(1), inserting("\xD7"), "x\uFFFDy", back(4)}, {"behind that", "x\xD7", back(4), back(4), inserting("\x90"), "x\uFFFD\uFFFD", back(7)},
	})
}

// What joins what stands ahead, and what joins what stands behind: the focus goes behind all of the cluster.
func TestInsertOfWhatJoins(t *testing.T) {
	const flagA, flagB, flagC, flagD, man, woman = "\U0001F1E6", "\U0001F1E7", "\U0001F1E8", "\U0001F1E9", "\U0001F468", "\U0001F469"
	for _, room := range []int{10, 1 << 20} {
		k := deskWith(t, room)
		k.checkChanges(t, []changing{
			{"a mark behind a letter", "ab", at(1), at(1), inserting("\u0301"), "a\u0301b", back(3)}, {"a mark in place of a letter", "abc", at(1), back(2), inserting("\u0301"), "a\u0301c", back(3)}, {"a mark at the beginning", "ab", at(0), at(0), inserting("\u0301"), "\u0301ab", back(2)}, {"a mark behind a mark", "a\u0301b", at(3), at(3), inserting("\u0302"), "a\u0301\u0302b", back(5)}, {"a mark and a letter", "ab", at(1), at(1), inserting("\u0301c"), "a\u0301cb", back(4)},
			{"a letter ahead of a mark", "\u0301x", at(0), at(0), inserting("e"), "e\u0301x", back(3)}, {"a letter behind a sign, ahead of a mark", "a\u200B\u0301x", at(4), at(4), inserting("e"), "a\u200Be\u0301x", back(7)}, {"in place of what parted", "a\u200B\u0301x", at(1), back(4), inserting("e"), "ae\u0301x", back(4)}, {"no text in place of what parted", "a\u200B\u0301x", at(1), back(4), inserting(""), "a\u0301x", back(3)}, {"a letter ahead of a mark that ends the text", "\u0301", at(0), at(0), inserting("e"), "e\u0301", back(3)},
			{"Prepend ahead of a letter", "ab", at(0), at(0), inserting("\u0600"), "\u0600ab", back(3)}, {"Prepend between", "ab", at(1), at(1), inserting("x\u0600"), "ax\u0600b", back(5)},
			{"a joiner between pictures", man + woman + "x", at(4), at(4), inserting("\u200D"), man + "\u200D" + woman + "x", back(11)}, {"a picture and a joiner", woman + "x", at(0), at(0), inserting(man + "\u200D"), man + "\u200D" + woman + "x", back(11)},
			{"a flag ahead of flags", flagA + flagB + flagC, at(0), at(0), inserting(flagD), flagD + flagA + flagB + flagC, back(8)}, {"a flag between flags", flagA + flagB + flagC, at(8), at(8), inserting(flagD), flagA + flagB + flagD + flagC, back(16)}, {"a flag behind flags", flagA + flagB + flagC, back(12), back(12), inserting(flagD), flagA + flagB + flagC + flagD, back(16)}, {"two flags ahead of flags", flagA + flagB + flagC, at(0), at(0), inserting(flagD + flagD), flagD + flagD + flagA + flagB + flagC, back(8)},
			{"a lead ahead of a vowel", "\u1160", at(0), at(0), inserting("\u1100"), "\u1100\u1160", back(6)}, {"a vowel behind a lead", "\u1100a", at(3), at(3), inserting("\u1160"), "\u1100\u1160a", back(6)},
		})
	}
}

func TestInsertUpTo400Bytes(t *testing.T) {
	k := deskWith(t, 200)
	letters := strings.Repeat("a", 400)
	k.checkChanges(t, []changing{
		{"just 400", letters[:399], at(1), at(1), inserting("x"), "ax" + letters[1:399], back(2)}, {"400 at once", "", at(0), at(0), inserting(letters), letters, back(400)}, {"no text in 400", letters, at(3), at(3), inserting(""), letters, back(3)}, {"just 400 when clean", letters[:397], at(0), at(0), inserting("\xFF"), "\uFFFD" + letters[:397], back(3)}, {"400 when clean, 404 as it is", letters[:398], at(0), at(0), inserting("\u2029\u2029"), "  " + letters[:398], back(2)},
		{"what is selected gives room", letters, at(1), back(3), inserting("xy"), "axy" + letters[3:], back(3)}, {"all is selected", letters, at(0), back(400), inserting(letters), letters, back(400)}, {"what is selected gives more room", letters, at(1), back(200), inserting("x"), "ax" + letters[200:], back(2)}, {"room for U+FFFD", letters, at(1), back(4), inserting("\xFF"), "a\uFFFD" + letters[4:], back(4)},
	})
	k.checkIdle(t, "401", letters[:399], at(1), at(1), inserting("xy"))
	k.checkIdle(t, "401", letters, at(0), at(0), inserting("x"))
	k.checkIdle(t, "401 at once", "", at(0), at(0), inserting(letters+"x"))
	k.checkIdle(t, "401 when clean", letters[:398], at(0), at(0), inserting("\xFF"))
	k.checkIdle(t, "what is selected does not give room enough", letters, at(1), back(3), inserting("xyz"), inserting("\xFF"))
	k.checkIdle(t, "the other way round", letters, back(3), at(1), inserting("xyz"), inserting("\xFF"))
	k.checkIdle(t, "all is selected", letters, at(0), back(400), inserting(letters+"x"), inserting(strings.Repeat("a", 1<<20)))
	k.checkIdle(t, "where Back alone differs", letters, back(3), at(3), inserting("x"))
}

func TestErase(t *testing.T) {
	for _, room := range []int{-1, 20, 1 << 20} {
		k := deskWith(t, room)
		erase := op(api.Erase)
		k.checkChanges(t, []changing{
			{"between", "abc", back(2), back(2), erase, "ac", back(1)}, {"between, without Back", "abc", at(2), at(2), erase, "ac", back(1)}, {"the first", "abc", at(1), at(1), erase, "bc", at(0)}, {"at the end", "abc", back(3), back(3), erase, "ab", back(2)}, {"the only one", "a", back(1), back(1), erase, "", at(0)}, {"where Back alone differs", "abc", at(2), back(2), erase, "ac", back(1)}, {"where Back alone differs", "abc", back(2), at(2), erase, "ac", back(1)},
			{"what is selected", "abcd", at(1), back(3), erase, "ad", back(1)}, {"one that is selected", "abcd", at(1), back(2), erase, "acd", back(1)}, {"all", "abcd", at(0), back(4), erase, "", at(0)}, {"the beginning", "abcd", at(0), back(2), erase, "cd", at(0)}, {"the end", "abcd", at(2), back(4), erase, "ab", back(2)},
			{"a letter with a mark", "xe\u0301y", back(4), back(4), erase, "xy", back(1)}, {"signs joined", "\U0001F468\u200D\U0001F469x", at(11), at(11), erase, "x", at(0)}, {"a flag", "\U0001F1E6\U0001F1E7\U0001F1E8", back(12), back(12), erase, "\U0001F1E6\U0001F1E7", back(8)}, {"two flags", "\U0001F1E6\U0001F1E7\U0001F1E8", back(8), back(8), erase, "\U0001F1E8", at(0)}, {"a syllable", "a\u1100\u1160\u11A8", back(10), back(10), erase, "a", back(1)}, {"from right to left", "\u05D0\u05D1\u05D2", at(4), at(4), erase, "\u05D0\u05D2", back(2)}, {"two blanks for CR and LF", "a\r\nb", back(3), back(3), erase, "a b", back(2)},
			{"what is left joins", "a\u200B\u0301b", back(4), back(4), erase, "a\u0301b", at(0)}, {"what is left joins, not at the beginning", "za\u200B\u0301b", back(5), back(5), erase, "za\u0301b", back(1)}, {"flags that join", "z\U0001F1E6x\U0001F1E7y", at(6), at(6), erase, "z\U0001F1E6\U0001F1E7y", back(1)}, {"what is left of a selection joins", "z\U0001F1E6xy\U0001F1E7y", at(5), back(7), erase, "z\U0001F1E6\U0001F1E7y", back(1)},
		})
		k.checkIdle(t, "at the beginning", "abc", at(0), at(0), erase)
		k.checkIdle(t, "of no bytes", "", at(0), at(0), erase)
	}
}

func TestDelete(t *testing.T) {
	for _, room := range []int{-1, 20, 1 << 20} {
		k := deskWith(t, room)
		del := op(api.Delete)
		k.checkChanges(t, []changing{
			{"between", "abc", at(1), at(1), del, "ac", at(1)}, {"between, with Back", "abc", back(1), back(1), del, "ac", at(1)}, {"at the beginning", "abc", at(0), at(0), del, "bc", at(0)}, {"the last", "abc", at(2), at(2), del, "ab", back(2)}, {"the only one", "a", at(0), at(0), del, "", at(0)}, {"where Back alone differs", "abc", at(1), back(1), del, "ac", at(1)}, {"where Back alone differs", "abc", back(1), at(1), del, "ac", at(1)},
			{"what is selected", "abcd", at(1), back(3), del, "ad", back(1)}, {"one that is selected", "abcd", at(1), at(2), del, "acd", back(1)}, {"all", "abcd", at(0), back(4), del, "", at(0)}, {"the beginning", "abcd", at(0), back(2), del, "cd", at(0)}, {"the end", "abcd", at(2), back(4), del, "ab", back(2)},
			{"a letter with a mark", "xe\u0301y", back(1), back(1), del, "xy", at(1)}, {"signs joined", "x\U0001F468\u200D\U0001F469", at(1), at(1), del, "x", back(1)}, {"two flags", "\U0001F1E6\U0001F1E7\U0001F1E8", at(0), at(0), del, "\U0001F1E8", at(0)}, {"a flag", "\U0001F1E6\U0001F1E7\U0001F1E8", at(8), at(8), del, "\U0001F1E6\U0001F1E7", back(8)}, {"a syllable", "a\u1100\u1160\u11A8b", at(1), at(1), del, "ab", at(1)}, {"from right to left", "\u05D0\u05D1\u05D2", back(2), back(2), del, "\u05D0\u05D2", at(2)},
			{"what is left joins", "a\u200B\u0301b", at(1), at(1), del, "a\u0301b", at(0)}, {"what is left joins, not at the beginning", "za\u200B\u0301b", at(2), at(2), del, "za\u0301b", at(1)}, {"flags that join", "z\U0001F1E6x\U0001F1E7y", back(5), back(5), del, "z\U0001F1E6\U0001F1E7y", at(1)}, {"what is left of a selection joins", "z\U0001F1E6xy\U0001F1E7y", at(5), back(7), del, "z\U0001F1E6\U0001F1E7y", back(1)},
		})
		k.checkIdle(t, "at the end", "abc", back(3), back(3), del)
		k.checkIdle(t, "of no bytes", "", at(0), at(0), del)
	}
}

// Narrow runes are 10 wide, wide ones 20: the breaks behind each change, by hand.
func TestBreaksBehindChanges(t *testing.T) {
	d := open(t, "", 0, metric, 40)
	for i, c := range []struct {
		op     api.Op
		text   string
		breaks []int
		line   int
		x      int64
	}{
		{inserting("ab"), "ab", nil, 0, 20}, {inserting(" "), "ab ", nil, 0, 30}, {inserting("c"), "ab c", nil, 0, 40}, {inserting("d"), "ab cd", []int{3}, 1, 20}, {inserting(" \u4E00"), "ab cd \u4E00", []int{3, 6}, 2, 20},
		{setTo(at(3)), "ab cd \u4E00", []int{3, 6}, 1, 0}, {op(api.Erase), "abcd \u4E00", []int{5}, 0, 20}, {op(api.Delete), "abd \u4E00", []int{4}, 0, 20}, {inserting("\u0301"), "ab\u0301d \u4E00", []int{6}, 0, 20}, {inserting("\n"), "ab\u0301 d \u4E00", []int{7}, 0, 30},
		{extended(op(api.End)), "ab\u0301 d \u4E00", []int{7}, 0, 50}, {op(api.Erase), "ab\u0301 \u4E00", []int{5}, 0, 30}, {op(api.Undo), "ab\u0301 d \u4E00", []int{7}, 0, 50}, {op(api.Redo), "ab\u0301 \u4E00", []int{5}, 0, 30},
		{setTo(at(0)), "ab\u0301 \u4E00", []int{5}, 0, 0}, {extended(setTo(back(5))), "ab\u0301 \u4E00", []int{5}, 0, 30}, {inserting(""), "\u4E00", nil, 0, 0}, {inserting("xyz"), "xyz\u4E00", []int{3}, 0, 30},
	} {
		page := d.Do(c.op)
		if page.Text != c.text || !slices.Equal(page.Breaks, c.breaks) || page.Gap.Line != c.line || page.X != c.x {
			t.Errorf("P29: step %d: %+v, want %+v", i, page, c)
		}
	}
}

// By the text, a change may turn the paragraph round.
func TestAChangeOfTheParagraphsDirection(t *testing.T) {
	k := desk{api.ByText, metric, 1 << 20, bothTables(t)}
	d := k.open(t, "!\u05D0")
	k.checkPaging(t, "from the right", d, []paging{{op(api.Left), "!\u05D0", at(1), at(1), true, 0, 0}, {op(api.Home), "!\u05D0", at(0), at(0), true, 0, 0}, {inserting("a"), "a!\u05D0", back(1), back(1), true, 1, 0}})
	page := d.Do(op(api.Home))
	if page.X != 0 || page.Gap.Gap != 0 {
		t.Errorf("P29: from the left: %+v", page)
	}
	k.checkPaging(t, "and back", d, []paging{{op(api.Undo), "!\u05D0", at(0), at(0), true, 0, 1}})
	if page = d.Do(op(api.Nothing)); page.X != 20 {
		t.Errorf("P30: from the right: %+v", page)
	}
}
